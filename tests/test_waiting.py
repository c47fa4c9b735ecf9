"""Points 1, 7 and 10: what waits and what is overdue on a day, in whatever order it was entered."""

import itertools
import random
import unittest

from letterdesk.story import answers

HUNDRED_FIGURES = 10 ** 100 - 1


def waiting(deeds, day):
    return answers(list(deeds) + [("waiting", day)])[-1]


def overdue(deeds, day):
    return answers(list(deeds) + [("overdue", day)])[-1]


def days_on_which(asked, deeds, number, days):
    return [day for day in days if number in asked(deeds, day)]


def walked_due(shut, date, term):
    day = date
    while term > 0:
        day += 1
        if day % 7 not in (5, 6) and day not in shut:
            term -= 1
    return day


class WaitingTest(unittest.TestCase):
    def test_a_letter_of_that_very_day(self):
        deeds = [("in", 3, "ann", 2)]
        self.assertEqual([waiting(deeds, day) for day in (-50, 2, 3, 4, 99, 10 ** 9)], [[], [], [0], [0], [0], [0]])

    def test_an_answer_of_that_very_day_an_earlier_and_a_later_one(self):
        deeds = [("in", 3, "ann", 2), ("reply", 0, 8, 0)]
        self.assertEqual(days_on_which(waiting, deeds, 0, range(15)), [3, 4, 5, 6, 7])

    def test_an_answer_of_the_day_of_the_letter(self):
        deeds = [("in", 3, "ann", 2), ("reply", 0, 3, 0)]
        self.assertEqual(days_on_which(waiting, deeds, 0, range(15)), [])

    def test_the_earliest_of_several_answers(self):
        for days in itertools.permutations((6, 8, 11)):
            deeds = [("in", 3, "ann", 2)] + [("reply", 0, day, 0) for day in days]
            self.assertEqual(days_on_which(waiting, deeds, 0, range(15)), [3, 4, 5])

    def test_what_answers_an_answer_does_not_answer_the_letter(self):
        deeds = [("in", 3, "ann", 2), ("reply", 0, 5, 9), ("reply", 1, 6, 0), ("loose", 1)]
        self.assertEqual(days_on_which(waiting, deeds, 0, range(10)), [3, 4, 5, 6, 7, 8, 9])
        self.assertEqual(days_on_which(waiting, deeds, 1, range(10)), [5])

    def test_letters_out_wait_too(self):
        deeds = [("out", 3, "ann", 2)]
        self.assertEqual((waiting(deeds, 8), overdue(deeds, 8)), ([0], [0]))

    def test_a_letter_without_a_term(self):
        deeds = [("in", 3, "ann", 0), ("reply", 0, 4, 0)]
        self.assertEqual([waiting(deeds, day) + overdue(deeds, day) for day in range(20)], [[]] * 20)

    def test_a_term_that_is_set_later_and_set_back(self):
        deeds = [("in", 3, "ann", 0), ("term", 0, 2)]
        self.assertEqual((waiting(deeds, 8), overdue(deeds, 7), overdue(deeds, 8)), ([0], [], [0]))
        deeds.append(("term", 0, 3))
        self.assertEqual((waiting(deeds, 8), overdue(deeds, 8), overdue(deeds, 9)), ([0], [], [0]))
        deeds.append(("term", 0, 0))
        self.assertEqual((waiting(deeds, 8), overdue(deeds, 9)), ([], []))

    def test_a_day_that_is_put_right(self):
        deeds = [("in", 3, "ann", 2), ("reply", 0, 8, 0), ("date", 1, 10), ("date", 0, 7)]
        self.assertEqual(days_on_which(waiting, deeds, 0, range(15)), [7, 8, 9])

    def test_letters_that_hang_and_are_loosened(self):
        deeds = [("in", 3, "ann", 2), ("out", 8, "ann", 0)]
        self.assertEqual(waiting(deeds, 8), [0])
        deeds.append(("hang", 1, 0))
        self.assertEqual((waiting(deeds, 7), waiting(deeds, 8)), ([0], []))
        deeds.append(("loose", 1))
        self.assertEqual(waiting(deeds, 8), [0])

    def test_a_void_answer_and_a_void_letter(self):
        deeds = [("in", 3, "ann", 2), ("reply", 0, 4, 1), ("void", 1)]
        self.assertEqual((waiting(deeds, 9), overdue(deeds, 9)), ([0], [0]))
        deeds.append(("void", 0))
        self.assertEqual((waiting(deeds, 9), overdue(deeds, 9)), ([], []))

    def test_one_of_two_answers_void(self):
        deeds = [("in", 3, "ann", 2), ("reply", 0, 4, 0), ("reply", 0, 9, 0), ("void", 1)]
        self.assertEqual(days_on_which(waiting, deeds, 0, range(15)), [3, 4, 5, 6, 7, 8])


class OverdueTest(unittest.TestCase):
    def test_the_due_day_itself_is_not_overdue(self):
        deeds = [("in", 3, "ann", 2)]
        self.assertEqual(days_on_which(overdue, deeds, 0, range(12)), [8, 9, 10, 11])

    def test_an_answer_on_the_due_day_and_behind_it(self):
        for day, told in ((6, []), (7, []), (8, []), (9, [8]), (11, [8, 9, 10])):
            deeds = [("in", 3, "ann", 2), ("reply", 0, day, 0)]
            self.assertEqual(days_on_which(overdue, deeds, 0, range(20)), told)

    def test_shut_days_move_the_due_day_of_letters_entered_before(self):
        deeds = [("in", 3, "ann", 2)]
        self.assertEqual(overdue(deeds, 8), [0])
        deeds.append(("shut", 7))
        self.assertEqual((overdue(deeds, 8), overdue(deeds, 9)), ([], [0]))
        deeds.append(("shut", 8))
        self.assertEqual((overdue(deeds, 9), overdue(deeds, 10)), ([], [0]))

    def test_shut_days_that_are_not_behind_the_letter_or_past_its_due_day(self):
        deeds = [("in", 3, "ann", 2), ("shut", 3), ("shut", 2), ("shut", 8), ("shut", 5), ("shut", 14)]
        self.assertEqual(days_on_which(overdue, deeds, 0, range(11)), [8, 9, 10])

    def test_a_shut_day_is_shut_for_letters_entered_behind_it_too(self):
        deeds = [("shut", 7), ("in", 3, "ann", 2)]
        self.assertEqual(days_on_which(overdue, deeds, 0, range(11)), [9, 10])

    def test_letters_entered_late(self):
        deeds = [("in", 40, "ann", 1), ("waiting", 8), ("in", 3, "ann", 2), ("waiting", 8), ("overdue", 8),
                 ("out", 6, "ann", 0), ("hang", 2, 1), ("waiting", 8), ("waiting", 5)]
        self.assertEqual(answers(deeds), [0, [], 1, [1], [1], 2, "hung", [], [1]])


class OrderTest(unittest.TestCase):
    def test_those_due_earlier_first(self):
        deeds = [("in", 0, "a", 9), ("in", 1, "b", 2), ("out", 2, "c", 5), ("in", 3, "d", 1)]
        self.assertEqual(waiting(deeds, 3), [1, 3, 2, 0])
        self.assertEqual(overdue(deeds, 99), [1, 3, 2, 0])
        self.assertEqual(overdue(deeds, 9), [1, 3])

    def test_those_due_on_one_day_in_the_order_of_their_numbers(self):
        # All of these are due on day 7, from four days and by four terms.
        deeds = [("in", 4, "a", 1), ("in", 2, "a", 3), ("in", 6, "a", 1), ("in", 0, "a", 5), ("in", 5, "a", 1)]
        self.assertEqual(waiting(deeds, 6), [0, 1, 2, 3, 4])
        self.assertEqual((overdue(deeds, 7), overdue(deeds, 8)), ([], [0, 1, 2, 3, 4]))

    def test_shut_days_change_the_order(self):
        deeds = [("in", 0, "a", 4), ("in", 2, "b", 1)]
        self.assertEqual(waiting(deeds, 2), [1, 0])
        deeds = deeds + [("shut", 3), ("shut", 4)]
        self.assertEqual(waiting(deeds, 2), [1, 0])
        deeds = [("in", 1, "a", 2), ("in", 0, "b", 2)]
        self.assertEqual(waiting(deeds, 2), [1, 0])
        self.assertEqual(waiting(deeds + [("shut", 2)], 2), [1, 0])
        self.assertEqual(waiting(deeds + [("shut", 1)], 2), [0, 1])

    def test_due_days_are_ordered_as_numbers(self):
        deeds = [("in", 3, "a", 5), ("in", 3, "a", 4), ("in", -90, "a", 1), ("in", -9, "a", 1)]
        self.assertEqual(waiting(deeds, 3), [2, 3, 1, 0])

    def test_more_than_nine_letters_of_one_due_day(self):
        deeds = [("in", 3, "a", 1)] * 15
        self.assertEqual(waiting(deeds, 3), list(range(15)))


class FarTest(unittest.TestCase):
    def test_days_of_a_hundred_figures(self):
        for base in (HUNDRED_FIGURES, -HUNDRED_FIGURES):
            start = base - base % 7
            deeds = [("in", start + 3, "ann", 2), ("in", start + 3, "ann", 1000), ("out", start, "ann", 1)]
            self.assertEqual(waiting(deeds, start + 2), [2])
            self.assertEqual(waiting(deeds, start + 3), [2, 0, 1])
            self.assertEqual((overdue(deeds, start + 7), overdue(deeds, start + 8)), ([2], [2, 0]))
            self.assertEqual(overdue(deeds + [("shut", start + 7)], start + 8), [2])
            self.assertEqual((overdue(deeds, start + 1403), overdue(deeds, start + 1404)), ([2, 0], [2, 0, 1]))

    def test_days_far_apart(self):
        deeds = [("in", -HUNDRED_FIGURES, "a", 1), ("in", HUNDRED_FIGURES, "a", 1)]
        self.assertEqual((waiting(deeds, 0), overdue(deeds, 0)), ([0], [0]))
        self.assertEqual(waiting(deeds, HUNDRED_FIGURES), [0, 1])

    def test_terms_up_to_a_thousand_and_beyond(self):
        for term in (1, 2, 999, 1000, 1001, 1200):
            due = walked_due([], 3, term)
            deeds = [("in", 3, "ann", term)]
            self.assertEqual((overdue(deeds, due), overdue(deeds, due + 1)), ([], [0]), term)

    def test_sixty_shut_days_and_more(self):
        counting = [day for day in range(4, 150) if day % 7 < 5]
        for size in (59, 60, 61, 80):
            shut = counting[:size]
            deeds = [("shut", day) for day in shut[::2] + shut[1::2]] + [("in", 3, "ann", 1), ("in", 3, "ann", 40)]
            for number, term in ((0, 1), (1, 40)):
                due = walked_due(shut, 3, term)
                self.assertNotIn(number, overdue(deeds, due))
                self.assertIn(number, overdue(deeds, due + 1))

    def test_a_long_term_over_sixty_shut_days(self):
        shut = [day for day in range(-30, 1500, 17) if day % 7 < 5][:60]
        deeds = [("in", 3, "ann", 1000)] + [("shut", day) for day in shut]
        due = walked_due(shut, 3, 1000)
        self.assertEqual((overdue(deeds, due), overdue(deeds, due + 1)), ([], [0]))


# Letters by name: way, day, partner, term, and the one that each answers. No two that need an answer are due
# on one day, with the shut days below, so that their order does not hang on their numbers.
LETTERS = {
    "a": ("in", 3, "ann", 2, None), "b": ("out", 8, "ann", 1, "a"), "c": ("in", 14, "ann", 9, "b"),
    "d": ("out", 9, "ann", 0, "a"), "e": ("out", 2, "bob", 6, None), "f": ("in", 12, "bob", 2, "e"),
    "g": ("in", 2, "bob", 0, "e"), "h": ("in", -4, "ann", 3, None), "i": ("out", 15, "ann", 4, "h"),
}
SHUT = [7, 10, 16, -3]
DAYS = range(-6, 40)


def told_by_point_seven():
    """For each day the names of the letters that wait and of those that are overdue, by the words of point 7."""
    told = []
    for day in DAYS:
        waits = []
        for name, (way, date, partner, term, link) in LETTERS.items():
            replies = [other[1] for other in LETTERS.values() if other[4] == name and other[1] <= day]
            if term >= 1 and date <= day and replies == []:
                waits.append((walked_due(SHUT, date, term), name))
        late = [name for due, name in sorted(waits) if due < day]
        told.append(([name for due, name in sorted(waits)], late))
    return told


def named(names, deeds):
    """For each day the letters that the program tells, by their names."""
    told = []
    for day in DAYS:
        waits, late = answers(deeds + [("waiting", day), ("overdue", day)])[-2:]
        told.append(([names[number] for number in waits], [names[number] for number in late]))
    return told


def with_replies(names):
    """A deed for each letter in the order of LETTERS, which stand under these names in the book."""
    deeds = []
    for way, date, partner, term, link in LETTERS.values():
        if link is None:
            deeds.append((way, date, partner, term))
        else:
            deeds.append(("reply", names.index(link), date, term))
    return deeds


def hangings(names):
    return [("hang", names.index(name), names.index(LETTERS[name][4])) for name in names if LETTERS[name][4]]


class AnyOrderTest(unittest.TestCase):
    """Point 10: the same letters, answers, terms and shut days lead to the same lists."""

    def setUp(self):
        self.told = told_by_point_seven()

    def assert_told(self, names, deeds):
        texts = [answer for answer in answers(deeds) if isinstance(answer, str)]
        self.assertLessEqual(set(texts), {"hung", "loose", "dated", "set", "shut", "void"})
        self.assertEqual(named(names, deeds), self.told, deeds)

    def test_the_letters_put_something_to_the_test(self):
        dues = [walked_due(SHUT, date, term) for way, date, partner, term, link in LETTERS.values() if term > 0]
        self.assertEqual(len(set(dues)), len(dues))
        self.assertGreater(len({str(lists) for lists in self.told}), 10)

    def test_entered_in_the_order_of_their_names_with_replies(self):
        names = list(LETTERS)
        deeds = with_replies(names)
        self.assert_told(names, deeds + [("shut", day) for day in SHUT])
        self.assert_told(names, [("shut", day) for day in SHUT[::-1]] + deeds)

    def test_entered_in_many_orders_and_hung_later(self):
        chance = random.Random(7)
        for time in range(40):
            names = chance.sample(list(LETTERS), len(LETTERS))
            deeds = [LETTERS[name][:4] for name in names]
            later = hangings(names) + [("shut", day) for day in SHUT]
            chance.shuffle(later)
            self.assert_told(names, deeds + later)

    def test_shut_days_among_the_letters(self):
        chance = random.Random(8)
        for time in range(20):
            names = list(LETTERS)
            deeds = [LETTERS[name][:4] for name in names]
            for day in SHUT:
                deeds.insert(chance.randrange(len(deeds) + 1), ("shut", day))
            self.assert_told(names, deeds + hangings(names)[::-1])

    def test_entered_wrongly_and_put_right_later(self):
        chance = random.Random(9)
        for time in range(40):
            names = chance.sample(list(LETTERS), len(LETTERS))
            deeds = [(LETTERS[name][0], chance.randrange(-9, 30), LETTERS[name][2], chance.randrange(9))
                     for name in names]
            right = [("date", names.index(name), LETTERS[name][1]) for name in names]
            right += [("term", names.index(name), LETTERS[name][3]) for name in names]
            right += [("shut", day) for day in SHUT]
            chance.shuffle(right)
            hung = hangings(names)
            chance.shuffle(hung)
            loosened = [("loose", deed[1]) for deed in hung[:3]]
            self.assert_told(names, deeds + right + hung + loosened + hung[:3])

    def test_questions_and_refused_deeds_between_leave_no_trace(self):
        names = list(LETTERS)
        between = [("waiting", 9), ("overdue", 30), ("letters", ""), ("thread", 0), ("state", 0), ("copies", 0),
                   ("hang", 0, 0), ("void", 99), ("in", 1, "ann", -1), ("reply", 0, -99, 1), ("shut", 5), ("loose", 0),
                   ("term", 0, -1)]
        deeds = []
        for deed in with_replies(names) + [("shut", day) for day in SHUT]:
            deeds = deeds + [deed] + between
        self.assertEqual(named(names, deeds), self.told)

    def test_letters_that_were_void_leave_no_trace(self):
        names = ["x"] + list(LETTERS)
        deeds = [("in", 1, "ann", 5)] + with_replies(names)
        size = len(names)
        deeds += [("reply", 1, 4, 1), ("reply", size, 5, 0), ("void", size + 1), ("void", size), ("void", 0)]
        self.assert_told(names, deeds + [("shut", day) for day in SHUT])


if __name__ == "__main__":
    unittest.main()
