"""Points 4 to 6, 8 and 11: each deed, its answer, and what stands behind it."""

import copy
import unittest

from letterdesk.story import answers, standing

HUNDRED_FIGURES = 10 ** 100 - 1

STORY = [
    (("in", 3, "ann", 2), 0),
    (("reply", 0, 8, 1), 1),
    (("overdue", 7), []),
    (("overdue", 8), []),
    (("date", 1, 9), "dated"),
    (("overdue", 8), [0]),
    (("shut", 7), "shut"),
    (("overdue", 8), []),
    (("in", 2, "ann", 0), 2),
    (("hang", 2, 1), "too early"),
    (("out", 9, "ann", 0), 3),
    (("hang", 3, 1), "same way"),
    (("hang", 3, 2), "hung"),
    (("thread", 3), [2, 3]),
]

# Two threads, each with a fork, and a letter alone: 0 - (1 - 3, 2) of ann, 4 - (5, 6) of ann, 7 of bob.
TWO_THREADS = [
    ("in", 1, "ann", 0), ("reply", 0, 2, 0), ("reply", 0, 3, 0), ("reply", 1, 4, 0),
    ("out", 5, "ann", 0), ("reply", 4, 6, 0), ("reply", 4, 7, 0), ("in", 8, "bob", 0),
]


def asked(deeds, *questions):
    """The answers to the questions behind the deeds."""
    return answers(list(deeds) + list(questions))[len(deeds):]


def files_of(deeds):
    return [state if state == "void" else state[5] for state in standing(deeds)]


def links_of(deeds):
    return [state if state == "void" else state[4] for state in standing(deeds)]


class StoryOfTheDocumentTest(unittest.TestCase):
    def test_deed_by_deed(self):
        for length in range(len(STORY) + 1):
            told = STORY[:length]
            self.assertEqual(answers([deed for deed, answer in told]), [answer for deed, answer in told])

    def test_what_stands_on_the_way_and_at_the_end(self):
        deeds = [deed for deed, answer in STORY]
        self.assertEqual(standing(deeds[:1]), [("in", 3, "ann", 2, None, "")])
        self.assertEqual(standing(deeds[:4]), [("in", 3, "ann", 2, None, ""), ("out", 8, "ann", 1, 0, "")])
        self.assertEqual(standing(deeds), [
            ("in", 3, "ann", 2, None, ""),
            ("out", 9, "ann", 1, 0, ""),
            ("in", 2, "ann", 0, None, ""),
            ("out", 9, "ann", 0, 2, ""),
        ])

    def test_the_answer_is_due_on_day_nine(self):
        deeds = [deed for deed, answer in STORY[:2]]
        self.assertEqual(asked(deeds, ("overdue", 9), ("overdue", 10)), [[], [1]])

    def test_no_deeds(self):
        self.assertEqual(answers([]), [])
        self.assertEqual(standing([]), [])


class EnterTest(unittest.TestCase):
    def test_numbers_are_counted_from_nought_whatever_the_days(self):
        deeds = [("in", 9, "ann", 0), ("out", -4, "bob", 3), ("in", 9, "ann", 0), ("out", 2, "ann", 1000)]
        self.assertEqual(answers(deeds), [0, 1, 2, 3])
        self.assertEqual(standing(deeds), [
            ("in", 9, "ann", 0, None, ""), ("out", -4, "bob", 3, None, ""),
            ("in", 9, "ann", 0, None, ""), ("out", 2, "ann", 1000, None, ""),
        ])

    def test_letters_and_replies_are_counted_together(self):
        deeds = [("in", 1, "a", 0), ("reply", 0, 1, 0), ("out", 1, "a", 0), ("reply", 1, 1, 0), ("in", 1, "b", 0)]
        self.assertEqual(answers(deeds), [0, 1, 2, 3, 4])

    def test_refused_letters_take_no_number(self):
        deeds = [("in", 1, "a", -1), ("in", 1, "a", 0), ("reply", 0, 0, 0), ("reply", 5, 1, 0), ("reply", 0, 2, 0)]
        self.assertEqual(answers(deeds), ["no term", 0, "too early", "no letter", 1])

    def test_a_number_that_is_void_is_not_given_again(self):
        deeds = [("in", 1, "a", 0), ("void", 0), ("out", 1, "a", 0), ("void", 1), ("in", 1, "a", 0)]
        self.assertEqual(answers(deeds), [0, "void", 1, "void", 2])
        self.assertEqual(standing(deeds), ["void", "void", ("in", 1, "a", 0, None, "")])

    def test_partners_of_any_text(self):
        for partner in ("", " ", "ann  of the\tmill\n", "x" * 5000, "void", "in", "None"):
            deeds = [("out", 1, partner, 0), ("reply", 0, 1, 0)]
            self.assertEqual(standing(deeds), [("out", 1, partner, 0, None, ""), ("in", 1, partner, 0, 0, "")])

    def test_a_letter_alone_is_a_thread_in_the_file_of_the_empty_text(self):
        deeds = [("in", 1, "a", 0), ("out", 1, "a", 0)]
        self.assertEqual(asked(deeds, ("thread", 0), ("thread", 1), ("letters", "")), [[0], [1], [0, 1]])


class ReplyTest(unittest.TestCase):
    def test_it_is_of_the_other_way_and_of_the_same_partner(self):
        deeds = [("in", 1, "a", 4), ("reply", 0, 2, 5), ("reply", 1, 3, 6), ("out", 1, "b", 0), ("reply", 3, 9, 0)]
        self.assertEqual(standing(deeds), [
            ("in", 1, "a", 4, None, ""), ("out", 2, "a", 5, 0, ""), ("in", 3, "a", 6, 1, ""),
            ("out", 1, "b", 0, None, ""), ("in", 9, "b", 0, 3, ""),
        ])

    def test_several_letters_answer_the_same_one(self):
        deeds = [("in", 1, "a", 0), ("reply", 0, 9, 0), ("reply", 0, 4, 0), ("reply", 0, 4, 0), ("reply", 2, 7, 0)]
        self.assertEqual(asked(deeds, ("thread", 0), ("thread", 4)), [[0, 2, 4, 3, 1]] * 2)

    def test_an_answer_of_the_same_day(self):
        self.assertEqual(answers([("in", 4, "a", 0), ("reply", 0, 4, 0)]), [0, 1])

    def test_it_lies_in_the_file_of_the_letter_that_it_answers(self):
        deeds = [("in", 1, "a", 0), ("in", 1, "a", 0), ("file", 0, "tax"), ("reply", 0, 2, 0), ("reply", 1, 2, 0)]
        self.assertEqual(files_of(deeds), ["tax", "", "tax", ""])
        self.assertEqual(files_of(deeds + [("file", 0, "rent"), ("reply", 2, 3, 0)]), ["rent", "", "rent", "", "rent"])


class HangTest(unittest.TestCase):
    def test_the_letter_answers_the_other_one(self):
        deeds = [("out", 5, "a", 0), ("in", 4, "a", 3), ("hang", 0, 1)]
        self.assertEqual(answers(deeds), [0, 1, "hung"])
        self.assertEqual(standing(deeds), [("out", 5, "a", 0, 1, ""), ("in", 4, "a", 3, None, "")])
        self.assertEqual(asked(deeds, ("thread", 0), ("thread", 1)), [[1, 0]] * 2)

    def test_on_a_letter_of_the_same_day(self):
        self.assertEqual(answers([("out", 5, "a", 0), ("in", 5, "a", 0), ("hang", 0, 1)]), [0, 1, "hung"])

    def test_a_letter_with_answers_of_its_own(self):
        deeds = TWO_THREADS + [("hang", 4, 3)]
        self.assertEqual(answers(deeds)[-1], "hung")
        self.assertEqual(asked(deeds, ("thread", 0), ("thread", 6)), [[0, 1, 3, 4, 5, 6, 2]] * 2)
        self.assertEqual(links_of(deeds), [None, 0, 0, 1, 3, 4, 4, None])

    def test_its_whole_thread_lies_in_the_file_of_the_other_one(self):
        filed = TWO_THREADS + [("file", 1, "old"), ("file", 5, "new"), ("file", 7, "bob")]
        deeds = filed + [("hang", 4, 0)]
        self.assertEqual(files_of(filed), ["old"] * 4 + ["new"] * 3 + ["bob"])
        self.assertEqual(files_of(deeds), ["old"] * 7 + ["bob"])
        self.assertEqual(asked(deeds, ("letters", "old"), ("letters", "new")), [[0, 1, 2, 3, 4, 5, 6], []])

    def test_it_goes_to_the_file_of_the_empty_text_too(self):
        deeds = TWO_THREADS + [("file", 4, "new"), ("hang", 4, 3)]
        self.assertEqual(files_of(deeds), [""] * 8)

    def test_hanging_on_several_and_by_several(self):
        deeds = [("in", 1, "a", 0), ("out", 3, "a", 0), ("out", 2, "a", 0), ("out", 2, "a", 0)]
        deeds = deeds + [("hang", 3, 0), ("hang", 1, 0), ("hang", 2, 0)]
        self.assertEqual(asked(deeds, ("thread", 2)), [[0, 2, 3, 1]])


class LooseTest(unittest.TestCase):
    def test_what_hangs_on_it_goes_with_it_in_the_same_file(self):
        deeds = TWO_THREADS + [("file", 3, "tax"), ("loose", 1)]
        self.assertEqual(answers(deeds)[-1], "loose")
        self.assertEqual(asked(deeds, ("thread", 1), ("thread", 3), ("thread", 0)), [[1, 3], [1, 3], [0, 2]])
        self.assertEqual(files_of(deeds), ["tax"] * 4 + [""] * 4)
        self.assertEqual(links_of(deeds), [None, None, 0, 1, None, 4, 4, None])

    def test_the_two_threads_are_filed_apart_from_then_on(self):
        deeds = TWO_THREADS + [("file", 0, "tax"), ("loose", 1), ("file", 0, "rent")]
        self.assertEqual(files_of(deeds), ["rent", "tax", "rent", "tax", "", "", "", ""])
        deeds = deeds + [("file", 3, "wood")]
        self.assertEqual(files_of(deeds), ["rent", "wood", "rent", "wood", "", "", "", ""])

    def test_it_may_hang_again(self):
        deeds = TWO_THREADS + [("loose", 3), ("hang", 3, 2), ("loose", 3), ("hang", 3, 1)]
        self.assertEqual(answers(deeds)[-4:], ["loose", "hung"] * 2)
        self.assertEqual(standing(deeds), standing(TWO_THREADS))

    def test_it_may_be_hung_on_by_its_old_thread(self):
        deeds = [("in", 1, "a", 0), ("reply", 0, 1, 0), ("loose", 1), ("hang", 0, 1)]
        self.assertEqual(asked(deeds, ("thread", 0)), [[1, 0]])


class DateTest(unittest.TestCase):
    def test_the_letter_is_of_this_day(self):
        deeds = [("in", 1, "a", 7), ("date", 0, -20)]
        self.assertEqual(answers(deeds)[-1], "dated")
        self.assertEqual(standing(deeds), [("in", -20, "a", 7, None, "")])

    def test_the_order_of_the_thread_follows(self):
        deeds = [("in", 1, "a", 0), ("reply", 0, 2, 0), ("reply", 0, 3, 0)]
        self.assertEqual(asked(deeds + [("date", 1, 3)], ("thread", 0)), [[0, 1, 2]])
        self.assertEqual(asked(deeds + [("date", 1, 4)], ("thread", 0)), [[0, 2, 1]])

    def test_as_far_as_the_letters_beside_it(self):
        deeds = [("in", 1, "a", 0), ("reply", 0, 5, 0), ("reply", 1, 9, 0), ("reply", 1, 7, 0)]
        days = (0, 1, 2, 5, 6, 7, 8, 9, 10)
        told = [asked(deeds, ("date", 1, day))[0] for day in days]
        self.assertEqual(told, ["too early"] + ["dated"] * 5 + ["too early"] * 3)

    def test_the_day_that_it_has(self):
        self.assertEqual([asked(TWO_THREADS, ("date", n, TWO_THREADS[n][1]))[0] for n in (0, 4, 7)], ["dated"] * 3)

    def test_a_letter_that_was_loosened_is_free(self):
        deeds = TWO_THREADS + [("loose", 1), ("date", 1, -9), ("date", 0, 3)]
        self.assertEqual(answers(deeds)[-2:], ["dated", "dated"])


class TermTest(unittest.TestCase):
    def test_the_letter_has_this_term(self):
        deeds = [("in", 1, "a", 7), ("reply", 0, 2, 1), ("term", 0, 0), ("term", 1, 1000)]
        self.assertEqual(answers(deeds)[-2:], ["set", "set"])
        self.assertEqual(standing(deeds), [("in", 1, "a", 0, None, ""), ("out", 2, "a", 1000, 0, "")])


class CopyTest(unittest.TestCase):
    def test_copies_are_counted_for_each_letter(self):
        deeds = [("in", 1, "a", 0), ("in", 1, "a", 0)]
        copies = [("copy", 0, "eve"), ("copy", 0, "bob"), ("copy", 1, "bob"), ("copy", 0, "dan"), ("copy", 1, "eve")]
        self.assertEqual(asked(deeds, *copies), [1, 2, 1, 3, 2])

    def test_the_order_is_the_one_in_which_they_went(self):
        deeds = [("in", 1, "a", 0)] + [("copy", 0, person) for person in ("eve", "bob", "", "dan", "Bob", " ")]
        self.assertEqual(asked(deeds, ("copies", 0)), [["eve", "bob", "", "dan", "Bob", " "]])

    def test_none_at_first_and_none_for_an_answer(self):
        deeds = [("in", 1, "a", 0), ("copy", 0, "eve"), ("reply", 0, 1, 0)]
        self.assertEqual(asked(deeds[:1], ("copies", 0)), [[]])
        self.assertEqual(asked(deeds, ("copies", 1)), [[]])

    def test_the_partner_and_whoever_has_one(self):
        deeds = [("in", 1, "ann", 0), ("copy", 0, "ann"), ("copy", 0, "eve"), ("copy", 0, "eve"), ("copy", 0, "dan"),
                 ("copy", 0, "eve"), ("copies", 0), ("copy", 0, "ann ")]
        self.assertEqual(answers(deeds), [0, "copied", 1, "copied", 2, "copied", ["eve", "dan"], 3])

    def test_the_partner_of_an_answer(self):
        deeds = [("in", 1, "ann", 0), ("reply", 0, 1, 0), ("copy", 1, "ann"), ("copy", 1, "bob")]
        self.assertEqual(answers(deeds), [0, 1, "copied", 1])

    def test_persons_of_any_text(self):
        long = "y" * 5000
        deeds = [("out", 1, "", 0), ("copy", 0, ""), ("copy", 0, " "), ("copy", 0, " "), ("copy", 0, "a b"),
                 ("copy", 0, long), ("copy", 0, long), ("copy", 0, long + "y"), ("copies", 0)]
        self.assertEqual(
            answers(deeds),
            [0, "copied", 1, "copied", 2, 3, "copied", 4, [" ", "a b", long, long + "y"]])

    def test_copies_stay_where_letters_hang_and_loosen(self):
        deeds = TWO_THREADS + [("copy", 4, "eve"), ("hang", 4, 3), ("copy", 4, "dan"), ("loose", 4), ("file", 4, "x")]
        self.assertEqual(asked(deeds, ("copies", 4), ("copies", 3), ("copies", 0)), [["eve", "dan"], [], []])


class FileTest(unittest.TestCase):
    def test_the_whole_thread_from_any_of_its_letters(self):
        for number in (0, 1, 2, 3):
            deeds = TWO_THREADS + [("file", number, "tax")]
            self.assertEqual(answers(deeds)[-1], 4)
            self.assertEqual(files_of(deeds), ["tax"] * 4 + [""] * 4)
        for number in (4, 5, 6):
            deeds = TWO_THREADS + [("file", number, "tax")]
            self.assertEqual(answers(deeds)[-1], 3)
            self.assertEqual(files_of(deeds), [""] * 4 + ["tax"] * 3 + [""])
        self.assertEqual(asked(TWO_THREADS, ("file", 7, "tax")), [1])

    def test_several_threads_in_one_file(self):
        deeds = TWO_THREADS + [("file", 7, "tax"), ("file", 2, "tax")]
        self.assertEqual(asked(deeds, ("letters", "tax"), ("letters", "")), [[0, 1, 2, 3, 7], [4, 5, 6]])

    def test_a_thread_is_laid_elsewhere_and_back(self):
        deeds = TWO_THREADS + [("file", 1, "tax"), ("file", 3, "a b"), ("file", 0, "")]
        self.assertEqual(answers(deeds)[-3:], [4, 4, 4])
        self.assertEqual(standing(deeds), standing(TWO_THREADS))
        self.assertEqual(asked(deeds[:-1], ("letters", "a b"), ("letters", "tax")), [[0, 1, 2, 3], []])

    def test_the_least_number_first_whatever_the_thread_s_order(self):
        deeds = [("out", 5, "a", 0), ("in", 4, "a", 0), ("hang", 0, 1), ("file", 0, "x")]
        self.assertEqual(asked(deeds, ("letters", "x"), ("thread", 0)), [[0, 1], [1, 0]])

    def test_a_name_that_no_thread_has(self):
        self.assertEqual(asked([], ("letters", ""), ("letters", "x")), [[], []])
        self.assertEqual(asked(TWO_THREADS, ("letters", "x"), ("letters", " ")), [[], []])


class VoidTest(unittest.TestCase):
    def test_it_is_in_no_thread_and_no_file(self):
        deeds = TWO_THREADS + [("file", 0, "tax"), ("void", 3)]
        self.assertEqual(answers(deeds)[-1], "void")
        self.assertEqual(asked(deeds, ("thread", 1), ("letters", "tax"), ("file", 0, "x")), [[0, 1, 2], [0, 1, 2], 3])
        self.assertEqual(standing(deeds)[3], "void")

    def test_it_is_not_in_the_file_of_the_empty_text_either(self):
        deeds = TWO_THREADS + [("void", 7)]
        self.assertEqual(asked(deeds, ("letters", "")), [[0, 1, 2, 3, 4, 5, 6]])

    def test_it_answers_none(self):
        deeds = TWO_THREADS + [("void", 5), ("date", 4, 7)]
        self.assertEqual(answers(deeds)[-1], "dated")
        deeds = TWO_THREADS + [("void", 5), ("void", 6), ("void", 4)]
        self.assertEqual(answers(deeds)[-3:], ["void"] * 3)

    def test_the_others_are_as_before(self):
        left = standing(TWO_THREADS + [("void", 3)])
        before = standing(TWO_THREADS)
        self.assertEqual(left[:3] + left[4:], before[:3] + before[4:])

    def test_a_letter_whose_answers_are_loosened_or_hang_elsewhere(self):
        deeds = TWO_THREADS + [("loose", 3), ("void", 1)]
        self.assertEqual(answers(deeds)[-1], "void")
        self.assertEqual(asked(deeds, ("thread", 3), ("thread", 0)), [[3], [0, 2]])
        deeds = TWO_THREADS + [("loose", 3), ("hang", 3, 2), ("void", 1)]
        self.assertEqual(asked(deeds, ("thread", 3)), [[0, 2, 3]])

    def test_all_letters_void(self):
        deeds = [("in", 1, "a", 5), ("out", 1, "a", 5), ("void", 1), ("void", 0)]
        self.assertEqual(standing(deeds), ["void", "void"])
        self.assertEqual(asked(deeds, ("letters", ""), ("waiting", 99), ("overdue", 99)), [[], [], []])


class ShutTest(unittest.TestCase):
    def test_a_day_that_counts_is_shut_once(self):
        self.assertEqual(answers([("shut", 7), ("shut", 7), ("shut", 8), ("shut", 7)]),
                         ["shut", "counts not", "shut", "counts not"])

    def test_days_that_do_not_count_anyway(self):
        told = [answers([("shut", day)])[0] for day in range(-8, 9)]
        self.assertEqual(told, ["counts not"] + ["shut"] * 5 + ["counts not"] * 2 + ["shut"] * 5
                         + ["counts not"] * 2 + ["shut"] * 2)

    def test_a_story_knows_nothing_of_the_one_before(self):
        for time in range(2):
            self.assertEqual(answers([("shut", 7), ("in", 1, "a", 0)]), ["shut", 0])
            self.assertEqual(standing([("in", 1, "a", 0)]), [("in", 1, "a", 0, None, "")])


class KindsTest(unittest.TestCase):
    def test_the_kind_of_each_answer(self):
        deeds = [("in", 3, "ann", 2), ("reply", 0, 8, 1), ("copy", 0, "eve"), ("file", 0, "x"), ("state", 0),
                 ("thread", 0), ("copies", 0), ("letters", "x"), ("waiting", 8), ("overdue", 8), ("state", 9),
                 ("loose", 1), ("hang", 1, 0), ("date", 1, 9), ("term", 1, 0), ("void", 1), ("shut", 0)]
        kinds = [int] * 4 + [tuple] + [list] * 5 + [str] * 7
        self.assertEqual([type(answer) for answer in answers(deeds)], kinds)
        self.assertIs(type(answers(deeds)), list)
        self.assertIs(type(standing(deeds)), list)
        self.assertEqual([type(state) for state in standing(deeds)], [tuple, str])

    def test_the_state_is_what_standing_tells(self):
        questions = [("state", number) for number in range(8)]
        self.assertEqual(asked(TWO_THREADS, *questions), standing(TWO_THREADS))


class NothingIsChangedTest(unittest.TestCase):
    def test_the_deeds_are_as_before(self):
        deeds = [deed for deed, answer in STORY] + [
            ("copy", 0, "eve"), ("file", 0, "x"), ("loose", 3), ("void", 3), ("copies", 0), ("letters", "x"),
            ("waiting", 3), ("term", 0, 4), ("state", 0), ("out", 1, "a", -1)]
        before = copy.deepcopy(deeds)
        first = answers(deeds)
        standing(deeds)
        self.assertEqual(deeds, before)
        self.assertEqual(answers(deeds), first)

    def test_an_answered_list_is_not_changed_by_later_deeds(self):
        deeds = [("in", 1, "a", 3), ("copy", 0, "eve"), ("copies", 0), ("thread", 0), ("letters", ""), ("waiting", 2),
                 ("overdue", 9), ("state", 0)]
        later = [("copy", 0, "dan"), ("reply", 0, 2, 0), ("in", 1, "b", 2), ("copies", 0), ("file", 0, "x"),
                 ("waiting", 2), ("shut", 2), ("overdue", 9), ("date", 0, 0), ("void", 1), ("term", 0, 1)]
        self.assertEqual(answers(deeds + later)[:len(deeds)], answers(deeds))
        self.assertEqual(answers(deeds)[2:], [["eve"], [0], [0], [0], [0], ("in", 1, "a", 3, None, "")])

    def test_each_answered_list_is_a_list_of_its_own(self):
        for question in (("copies", 0), ("thread", 0), ("letters", ""), ("waiting", 2), ("overdue", 9)):
            told = answers([("in", 1, "a", 3), ("copy", 0, "eve"), question, question])
            told[2].append("more")
            self.assertEqual(len(told[3]), 1, question)


class FarDaysTest(unittest.TestCase):
    def test_days_and_numbers_of_a_hundred_figures(self):
        for sign in (1, -1):
            far = sign * HUNDRED_FIGURES
            deeds = [("in", far, "a", 0), ("out", far - 1, "b", 0), ("reply", 0, far + 1, 0), ("reply", 0, far, 0),
                     ("reply", 0, far - 1, 0), ("date", 1, far), ("date", 0, far + 1), ("date", 3, far + 1),
                     ("date", 0, far + 1), ("thread", 0), ("state", 0), ("hang", far, 0), ("state", far)]
            self.assertEqual(answers(deeds), [
                0, 1, 2, 3, "too early", "dated", "too early", "dated", "dated", [0, 2, 3],
                ("in", far + 1, "a", 0, None, ""), "no letter", "no letter"])

    def test_far_days_are_shut(self):
        for sign in (1, -1):
            days = [sign * HUNDRED_FIGURES + step for step in range(7)]
            told = [answers([("shut", day), ("shut", day)]) for day in days]
            self.assertEqual(told.count(["shut", "counts not"]), 5)
            self.assertEqual(told.count(["counts not", "counts not"]), 2)


if __name__ == "__main__":
    unittest.main()
