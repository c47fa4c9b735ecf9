"""Point 9: each refusal for each deed that it can meet, the order of refusals, and that they change nothing."""

import unittest

from letterdesk.errors import (
    Answered, Copied, CountsNot, HasNone, HasOne, NoLetter, NoTerm, OtherPartner, OwnThread, Refused, SameWay, TooEarly)
from letterdesk.story import answers, standing

FAR = 10 ** 9
HUNDRED_FIGURES = 10 ** 100 - 1

# 0 in - 1 out - 2 in, and 0 - 3 out, of ann; 4 in and 5 out of ann; 6 in of bob - 7 out; 8 and 9 are void.
BOOK = [
    ("in", 10, "ann", 3), ("reply", 0, 12, 2), ("reply", 1, 14, 1), ("reply", 0, 16, 0),
    ("in", 11, "ann", 5), ("out", 15, "ann", 0),
    ("in", 3, "bob", 4), ("reply", 6, 20, 0),
    ("out", 12, "ann", 1), ("reply", 0, 13, 1),
    ("file", 1, "tax"), ("file", 4, "rent"),
    ("copy", 0, "eve"), ("copy", 0, "dan"), ("copy", 8, "eve"), ("copy", 2, ""),
    ("shut", 14), ("shut", 9), ("void", 8), ("void", 9),
]
SIZE = 10
VOID = (8, 9)
NO_NUMBERS = (-1, -2, -SIZE, -SIZE - 1, SIZE, SIZE + 1, FAR, -FAR, HUNDRED_FIGURES, -HUNDRED_FIGURES) + VOID

# All that can be asked of the book, and deeds whose answers hang on what else it holds.
PROBES = (
    [("state", number) for number in range(-1, SIZE + 1)]
    + [("thread", number) for number in range(-1, SIZE + 1)]
    + [("copies", number) for number in range(-1, SIZE + 1)]
    + [("letters", name) for name in ("", "tax", "rent", "x", "ann")]
    + [("waiting", day) for day in range(0, 45)]
    + [("overdue", day) for day in range(0, 45)]
    + [("shut", day) for day in range(0, 45)]
    + [("in", 1, "ann", 0)]
)

# Deeds that name a letter, with all else so that nothing but the number is wrong.
NAMING = {
    "reply": lambda number: ("reply", number, 90, 1),
    "hang": lambda number: ("hang", number, 0),
    "hang, as other": lambda number: ("hang", 4, number),
    "loose": lambda number: ("loose", number),
    "date": lambda number: ("date", number, 13),
    "term": lambda number: ("term", number, 2),
    "copy": lambda number: ("copy", number, "zoe"),
    "file": lambda number: ("file", number, "x"),
    "void": lambda number: ("void", number),
    "state": lambda number: ("state", number),
    "thread": lambda number: ("thread", number),
    "copies": lambda number: ("copies", number),
}

REFUSED = [
    # no term
    (("in", 10, "ann", -1), "no term"),
    (("out", 10, "ann", -1), "no term"),
    (("in", 10, "ann", -HUNDRED_FIGURES), "no term"),
    (("out", -10, "", -1000), "no term"),
    (("reply", 0, 90, -1), "no term"),
    (("reply", 7, 90, -FAR), "no term"),
    (("term", 0, -1), "no term"),
    (("term", 3, -1), "no term"),
    (("term", 4, -HUNDRED_FIGURES), "no term"),
    # has one
    (("hang", 1, 4), "has one"),
    (("hang", 3, 4), "has one"),
    # has none
    (("loose", 0), "has none"),
    (("loose", 4), "has none"),
    (("loose", 6), "has none"),
    # own thread
    (("hang", 0, 0), "own thread"),
    (("hang", 4, 4), "own thread"),
    (("hang", 0, 1), "own thread"),
    (("hang", 0, 2), "own thread"),
    (("hang", 0, 3), "own thread"),
    (("hang", 6, 7), "own thread"),
    # same way
    (("hang", 4, 0), "same way"),
    (("hang", 4, 2), "same way"),
    (("hang", 5, 1), "same way"),
    # other partner
    (("hang", 5, 6), "other partner"),
    # too early
    (("reply", 0, 9, 0), "too early"),
    (("reply", 2, 13, 5), "too early"),
    (("reply", 6, -HUNDRED_FIGURES, 0), "too early"),
    (("hang", 4, 1), "too early"),
    (("hang", 4, 3), "too early"),
    (("hang", 4, 5), "too early"),
    (("hang", 0, 5), "too early"),
    (("date", 1, 9), "too early"),
    (("date", 2, 11), "too early"),
    (("date", 3, -5), "too early"),
    (("date", 0, 13), "too early"),
    (("date", 0, 17), "too early"),
    (("date", 1, 15), "too early"),
    (("date", 6, 21), "too early"),
    (("date", 6, HUNDRED_FIGURES), "too early"),
    # copied
    (("copy", 0, "ann"), "copied"),
    (("copy", 0, "eve"), "copied"),
    (("copy", 0, "dan"), "copied"),
    (("copy", 2, ""), "copied"),
    (("copy", 7, "bob"), "copied"),
    # answered
    (("void", 0), "answered"),
    (("void", 1), "answered"),
    (("void", 6), "answered"),
    # counts not
    (("shut", 14), "counts not"),
    (("shut", 9), "counts not"),
    (("shut", 12), "counts not"),
    (("shut", 13), "counts not"),
    (("shut", -1), "counts not"),
]

# Where several refusals hold, all of them are named here and the first one is told.
SEVERAL = [
    (("reply", FAR, 90, -1), "no letter", "no term"),
    (("reply", 8, 0, -1), "no letter", "no term, too early"),
    (("reply", 9, 0, 0), "no letter", "too early"),
    (("term", -1, -1), "no letter", "no term"),
    (("term", 8, -1), "no letter", "no term"),
    (("hang", 1, SIZE), "no letter", "has one"),
    (("hang", 1, 8), "no letter", "has one, same way"),
    (("hang", 5, 8), "no letter", "same way"),
    (("hang", 8, 5), "no letter", "same way, too early"),
    (("hang", 8, 8), "no letter", "own thread"),
    (("hang", FAR, FAR), "no letter", "own thread"),
    (("loose", 9), "no letter", "has none"),
    (("copy", 8, "ann"), "no letter", "copied"),
    (("copy", 8, "eve"), "no letter", "copied"),
    (("reply", 0, 9, -1), "no term", "too early"),
    (("reply", 2, -FAR, -FAR), "no term", "too early"),
    (("hang", 1, 0), "has one", "own thread"),
    (("hang", 1, 1), "has one", "own thread, same way"),
    (("hang", 1, 3), "has one", "own thread, same way, too early"),
    (("hang", 1, 5), "has one", "same way, too early"),
    (("hang", 1, 6), "has one", "other partner"),
    (("hang", 1, 7), "has one", "same way, other partner, too early"),
    (("hang", 2, 5), "has one", "too early"),
    (("hang", 0, 0), "own thread", "same way"),
    (("hang", 0, 1), "own thread", "too early"),
    (("hang", 0, 2), "own thread", "same way, too early"),
    (("hang", 0, 6), "same way", "other partner"),
    (("hang", 4, 2), "same way", "too early"),
    (("hang", 5, 3), "same way", "too early"),
    (("hang", 5, 7), "same way", "other partner, too early"),
    (("hang", 4, 7), "other partner", "too early"),
]


def answer_behind(deeds, deed):
    return answers(deeds + [deed])[-1]


def probed(deeds):
    return [answer_behind(deeds, probe) for probe in PROBES]


class RefusalTest(unittest.TestCase):
    def test_the_book_itself_is_not_refused(self):
        texts = ("shut", "void")
        self.assertEqual([told for told in answers(BOOK) if isinstance(told, str) and told not in texts], [])
        self.assertEqual([state == "void" for state in standing(BOOK)], [number in VOID for number in range(SIZE)])

    def test_each_deed_that_names_a_letter_meets_no_letter(self):
        for name, deed in NAMING.items():
            for number in NO_NUMBERS:
                self.assertEqual(answer_behind(BOOK, deed(number)), "no letter", (name, number))

    def test_such_a_deed_is_done_where_there_is_a_letter(self):
        done = {"reply": SIZE, "loose": "loose", "date": "dated", "term": "set", "copy": 1, "file": 4,
                "void": "answered", "hang": "has one", "hang, as other": "too early"}
        for name, told in done.items():
            self.assertEqual(answer_behind(BOOK, NAMING[name](1)), told, name)

    def test_no_letter_in_an_empty_book(self):
        for name, deed in NAMING.items():
            for number in (0, 1, -1, FAR):
                self.assertEqual(answers([deed(number)]), ["no letter"], (name, number))

    def test_each_refusal(self):
        for deed, told in REFUSED:
            self.assertEqual(answer_behind(BOOK, deed), told, deed)

    def test_the_first_one_is_told_where_several_hold(self):
        for deed, told, others in SEVERAL:
            self.assertEqual(answer_behind(BOOK, deed), told, (deed, others))

    def test_a_refused_deed_changes_nothing(self):
        states = standing(BOOK)
        before = probed(BOOK)
        refused = [deed for deed, told in REFUSED] + [deed for deed, told, others in SEVERAL]
        refused += [deed(number) for deed in NAMING.values() for number in (-1, SIZE, FAR) + VOID]
        for deed in refused:
            deeds = BOOK + [deed]
            self.assertEqual(standing(deeds), states, deed)
            self.assertEqual(probed(deeds), before, deed)

    def test_many_refused_deeds_change_nothing(self):
        deeds = BOOK + [deed for deed, told in REFUSED]
        self.assertEqual(standing(deeds), standing(BOOK))
        self.assertEqual(probed(deeds), probed(BOOK))

    def test_a_question_is_never_refused_but_for_its_letter(self):
        for question in (("letters", "none such"), ("waiting", -FAR), ("overdue", -HUNDRED_FIGURES)):
            self.assertEqual(answers([question]), [[]])
            self.assertEqual(answer_behind(BOOK, question), [])


class TooEarlyTest(unittest.TestCase):
    def test_the_same_day_is_not_too_early(self):
        self.assertEqual(answer_behind(BOOK, ("reply", 0, 10, 0)), SIZE)
        self.assertEqual(answers([("in", 5, "a", 0), ("out", 5, "a", 0), ("hang", 1, 0)])[-1], "hung")
        self.assertEqual(answer_behind(BOOK, ("date", 1, 10)), "dated")
        self.assertEqual(answer_behind(BOOK, ("date", 1, 14)), "dated")
        self.assertEqual(answer_behind(BOOK, ("date", 0, 12)), "dated")

    def test_the_earliest_of_several_answers_decides(self):
        for days in ((7, 9, 8), (9, 7, 8), (9, 8, 7)):
            deeds = [("in", 1, "a", 0)] + [("reply", 0, day, 0) for day in days]
            self.assertEqual(answer_behind(deeds, ("date", 0, 8)), "too early", days)
            self.assertEqual(answer_behind(deeds, ("date", 0, 7)), "dated", days)

    def test_only_the_letters_next_to_it_decide(self):
        deeds = [("in", 1, "a", 0), ("reply", 0, 5, 0), ("reply", 1, 9, 0), ("in", 0, "a", 0), ("out", 99, "a", 0)]
        self.assertEqual(answer_behind(deeds, ("date", 1, 9)), "dated")
        self.assertEqual(answer_behind(deeds, ("date", 2, FAR)), "dated")
        self.assertEqual(answer_behind(deeds, ("date", 0, -FAR)), "dated")

    def test_void_and_loosened_answers_do_not_decide(self):
        deeds = [("in", 1, "a", 0), ("reply", 0, 5, 0), ("reply", 0, 6, 0), ("void", 1), ("loose", 2)]
        self.assertEqual(answer_behind(deeds, ("date", 0, 8)), "dated")

    def test_a_day_that_was_put_right_decides(self):
        deeds = [("in", 1, "a", 0), ("reply", 0, 5, 0), ("date", 1, 9)]
        self.assertEqual(answer_behind(deeds, ("date", 0, 9)), "dated")
        self.assertEqual(answer_behind(deeds, ("date", 0, 10)), "too early")
        self.assertEqual(answer_behind(deeds, ("reply", 1, 8, 0)), "too early")


class ErrorsTest(unittest.TestCase):
    def test_each_error_has_the_words_of_its_refusal(self):
        told = [
            (NoLetter(), "no letter"), (NoTerm(), "no term"), (HasOne(), "has one"), (HasNone(), "has none"),
            (OwnThread(), "own thread"), (SameWay(), "same way"), (OtherPartner(), "other partner"),
            (TooEarly(), "too early"), (Copied(), "copied"), (Answered(), "answered"), (CountsNot(), "counts not"),
        ]
        for error, words in told:
            self.assertIsInstance(error, Refused)
            self.assertEqual(error.words, words)


if __name__ == "__main__":
    unittest.main()
