"""Points 1 to 3: days that count, spans of days, and days on which something is due."""

import unittest

from letterdesk.days import counted, counts, due_day

HUNDRED_FIGURES = 10 ** 100 - 1
FAR_DAYS = [sign * (HUNDRED_FIGURES - step) for sign in (1, -1) for step in range(9)]

# Sixty days, out of order, some twice, some that would not count anyway.
SIXTY = [30 - (17 * step) % 50 for step in range(50)] + [4, 7, 8, -3, 12, 12, 5, 6, -1, -2]

SHUT_LISTS = [
    [],
    [7],
    [5, 6, -1, -2],
    [4, 7, 8],
    [8, 4, 7, 4, 8],
    [14, -7, 0, 3, -7, 21, 5],
    list(range(-5, 12)),
    SIXTY,
]


def told_to_count(shut, date):
    """Point 2, with the rest of a day below nought made from that of its opposite."""
    rest = abs(date) % 7
    if date < 0 and rest > 0:
        rest = 7 - rest
    return rest in (0, 1, 2, 3, 4) and shut.count(date) == 0


def walked_count(shut, first, last):
    total = 0
    day = first
    while day <= last:
        if told_to_count(shut, day):
            total += 1
        day += 1
    return total


def walked_due(shut, date, term):
    day = date
    left = term
    while left > 0:
        day += 1
        if told_to_count(shut, day):
            left -= 1
    return day


def moved(shut, by):
    return [day + by for day in shut]


class CountsTest(unittest.TestCase):
    def test_each_rest_by_seven(self):
        self.assertEqual([counts([], day) for day in range(7)], [True] * 5 + [False] * 2)
        self.assertEqual([counts([], day) for day in range(7, 14)], [True] * 5 + [False] * 2)

    def test_days_below_nought(self):
        told = {-1: False, -2: False, -3: True, -4: True, -6: True, -7: True, -8: False, -9: False, -10: True}
        for day, answer in told.items():
            with self.subTest(day=day):
                self.assertIs(counts([], day), answer)

    def test_shut_days(self):
        self.assertIs(counts([3], 3), False)
        self.assertIs(counts([3], 4), True)
        self.assertIs(counts([-7], -7), False)
        self.assertIs(counts([-7], 7), True)
        self.assertIs(counts([9, 3, 1], 1), False)

    def test_a_day_shut_twice(self):
        self.assertIs(counts([3, 8, 3], 3), False)
        self.assertIs(counts([3, 3, 3, 3], 3), False)
        self.assertIs(counts([3, 3], 2), True)

    def test_a_shut_day_that_would_not_count_anyway(self):
        self.assertIs(counts([5], 5), False)
        self.assertIs(counts([6, 6], 6), False)
        self.assertIs(counts([-1], -1), False)
        self.assertIs(counts([5], 4), True)

    def test_answers_are_true_or_false_and_as_told(self):
        for shut in SHUT_LISTS:
            for day in list(range(-40, 60)) + FAR_DAYS:
                self.assertIs(counts(shut, day), told_to_count(shut, day), (shut, day))

    def test_far_days_that_are_shut(self):
        for day in FAR_DAYS:
            self.assertIs(counts([day], day), False)
            self.assertIs(counts([day - 1, day + 1, -day], day), told_to_count([], day))


class CountedTest(unittest.TestCase):
    def test_both_ends_are_among_the_days(self):
        self.assertEqual(counted([], 3, 7), 3)
        self.assertEqual(counted([], 0, 4), 5)
        self.assertEqual(counted([], 0, 6), 5)
        self.assertEqual(counted([], 4, 7), 2)
        self.assertEqual(counted([], -3, 0), 2)
        self.assertEqual(counted([3], 3, 7), 2)
        self.assertEqual(counted([7], 3, 7), 2)

    def test_one_day_alone(self):
        for day in range(-20, 20):
            self.assertEqual(counted([], day, day), 1 if told_to_count([], day) else 0, day)
            self.assertEqual(counted([day], day, day), 0, day)
            self.assertEqual(counted([day + 1, day - 1], day, day), 1 if told_to_count([], day) else 0, day)

    def test_none_where_the_last_day_is_earlier(self):
        for shut in SHUT_LISTS:
            for first in range(-8, 9):
                for back in (1, 2, 3, 7, 8, 500):
                    self.assertEqual(counted(shut, first, first - back), 0, (shut, first, back))
        self.assertEqual(counted([], HUNDRED_FIGURES, -HUNDRED_FIGURES), 0)

    def test_shut_days_that_stand_twice_or_out_of_order(self):
        self.assertEqual(counted([8, 3, 8, 3], 0, 13), 8)
        self.assertEqual(counted([3, 8], 0, 13), 8)
        self.assertEqual(counted([5, 6, 5], 0, 13), 10)

    def test_shut_days_outside_the_span(self):
        self.assertEqual(counted([-1, -7, 14, 15, 700], 0, 13), 10)
        self.assertEqual(counted([0, 14, 13], 1, 13), 9)

    def test_spans_are_counted_as_by_a_walk(self):
        for shut in SHUT_LISTS:
            for first in range(-22, 23):
                for last in range(first - 2, first + 40):
                    self.assertEqual(
                        counted(shut, first, last), walked_count(shut, first, last), (shut, first, last))

    def test_about_a_thousand_days(self):
        for length in (993, 999, 1000, 1001, 1500):
            for first in range(-507, -493):
                last = first + length - 1
                self.assertEqual(counted([], first, last), walked_count([], first, last))
                self.assertEqual(counted(SIXTY, first, last), walked_count(SIXTY, first, last))

    def test_days_of_a_hundred_figures(self):
        for day in FAR_DAYS:
            shut = moved(SIXTY, day)
            for length in (1, 2, 7, 40, 1000):
                last = day + length - 1
                self.assertEqual(counted([], day, last), walked_count([], day, last))
                self.assertEqual(counted(shut, day, last), walked_count(shut, day, last))


class DueDayTest(unittest.TestCase):
    def test_the_case_that_the_document_tells(self):
        self.assertEqual(due_day([], 3, 2), 7)

    def test_the_case_of_the_story_with_a_shut_day(self):
        self.assertEqual(due_day([7], 3, 2), 8)
        self.assertEqual(due_day([], 8, 1), 9)

    def test_a_start_that_counts_is_not_among_the_days(self):
        self.assertEqual(due_day([], 0, 1), 1)
        self.assertEqual(due_day([], 4, 1), 7)
        self.assertEqual(due_day([], 0, 5), 7)

    def test_a_start_that_does_not_count(self):
        self.assertEqual(due_day([], 5, 1), 7)
        self.assertEqual(due_day([], 6, 1), 7)
        self.assertEqual(due_day([], -1, 1), 0)
        self.assertEqual(due_day([], -2, 2), 1)
        self.assertEqual(due_day([3], 3, 1), 4)

    def test_shut_days_in_the_way(self):
        self.assertEqual(due_day([4, 7], 3, 1), 8)
        self.assertEqual(due_day([7, 4], 3, 1), 8)
        self.assertEqual(due_day([8, 7, 4, 7, 4], 3, 2), 10)
        self.assertEqual(due_day([1, 2, 3], 3, 1), 4)
        self.assertEqual(due_day([5, 6], 4, 1), 7)
        self.assertEqual(due_day([8], 4, 1), 7)

    def test_a_shut_day_is_reached_only_through_another_one(self):
        self.assertEqual(due_day([8, 1], 0, 5), 9)
        self.assertEqual(due_day([11, 10, 9, 8, 7, 4], 3, 1), 14)

    def test_days_due_are_as_by_a_walk(self):
        for shut in SHUT_LISTS:
            for day in range(-25, 40):
                for term in range(1, 32):
                    self.assertEqual(due_day(shut, day, term), walked_due(shut, day, term), (shut, day, term))

    def test_sixty_shut_days_on_end(self):
        on_end = list(range(1, 61))
        self.assertEqual(due_day(on_end, 0, 1), 63)
        self.assertEqual(due_day(list(reversed(on_end)), 0, 1), 63)
        open_by_rest = [day for day in range(1, 90) if day % 7 < 5][:60]
        self.assertEqual(due_day(open_by_rest, 0, 1), walked_due([], 0, 61))
        self.assertEqual(due_day(open_by_rest[::-1], 0, 1000), walked_due([], 0, 1060))

    def test_terms_up_to_a_thousand_and_beyond(self):
        self.assertEqual(due_day([], 0, 1000), 1400)
        for term in (1, 2, 5, 99, 500, 998, 999, 1000, 1001, 1300):
            for day in range(-8, 8):
                self.assertEqual(due_day([], day, term), walked_due([], day, term))
                self.assertEqual(due_day(SIXTY, day, term), walked_due(SIXTY, day, term))

    def test_days_of_a_hundred_figures(self):
        for day in FAR_DAYS:
            shut = moved(SIXTY, day)
            for term in (1, 2, 5, 30, 1000):
                self.assertEqual(due_day([], day, term), walked_due([], day, term))
                self.assertEqual(due_day(shut, day, term), walked_due(shut, day, term))

    def test_the_due_day_counts_and_ends_a_span_of_the_term(self):
        for shut in SHUT_LISTS:
            for day in range(-10, 30):
                due = due_day(shut, day, 6)
                self.assertIs(counts(shut, due), True)
                self.assertEqual(counted(shut, day + 1, due), 6)


class NothingIsChangedTest(unittest.TestCase):
    def test_the_shut_days_are_as_before(self):
        for shut in SHUT_LISTS:
            before = list(shut)
            counts(shut, 8)
            counted(shut, -20, 20)
            counted(shut, 20, -20)
            due_day(shut, 3, 12)
            self.assertEqual(shut, before)

    def test_the_same_question_has_the_same_answer(self):
        for shut in SHUT_LISTS:
            self.assertEqual(due_day(shut, 3, 12), due_day(list(shut), 3, 12))
            self.assertEqual(due_day(shut, 3, 12), due_day(shut[::-1], 3, 12))


if __name__ == "__main__":
    unittest.main()
