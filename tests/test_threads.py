"""Points 1, 4 and 5: the letters of a thread, and their order."""

import itertools
import unittest

from letterdesk.threads import thread

HUNDRED_FIGURES = 10 ** 100 - 1


def path_from_top(links, dates, number):
    """The days and numbers on the way down to a letter; a letter's own way begins that of all below it."""
    path = []
    while number is not None:
        path.insert(0, (dates[number], number))
        number = links[number]
    return path


def told_by_paths(links, dates, number):
    """Point 5 by another way: the letters with the same top, sorted by their paths."""
    paths = [path_from_top(links, dates, letter) for letter in range(len(links))]
    top = paths[number][0]
    return [path[-1][1] for path in sorted(paths) if path[0] == top]


def is_of_point_four(links, dates):
    """True where no letter hangs on itself and no answer is of an earlier day."""
    for letter, link in enumerate(links):
        steps = 0
        if link is not None and dates[link] > dates[letter]:
            return False
        while link is not None:
            if link == letter or steps > len(links):
                return False
            link = links[link]
            steps += 1
    return True


def all_links(size):
    return itertools.product([None] + list(range(size)), repeat=size)


class ThreadTest(unittest.TestCase):
    def assert_thread(self, links, dates, told):
        for number in told:
            self.assertEqual(thread(links, dates, number), told, number)

    def test_a_letter_alone(self):
        self.assert_thread([None], [5], [0])
        self.assert_thread([None, None, None], [5, 4, 4], [1])

    def test_any_letter_of_the_thread_may_be_asked(self):
        links = [None, 0, 1, 2]
        self.assertEqual(thread(links, [1, 2, 3, 4], 0), [0, 1, 2, 3])
        self.assertEqual(thread(links, [1, 2, 3, 4], 2), [0, 1, 2, 3])
        self.assertEqual(thread(links, [1, 2, 3, 4], 3), [0, 1, 2, 3])

    def test_several_threads_in_one_list(self):
        links = [None, None, 0, 1, None, 2, 3]
        dates = [1, 1, 2, 2, 2, 3, 3]
        self.assert_thread(links, dates, [0, 2, 5])
        self.assert_thread(links, dates, [1, 3, 6])
        self.assert_thread(links, dates, [4])

    def test_answers_of_one_day_stand_in_the_order_of_numbers(self):
        self.assert_thread([None, 0, 0, 0], [3, 8, 8, 8], [0, 1, 2, 3])
        self.assert_thread([3, 3, 3, None], [8, 8, 8, 3], [3, 0, 1, 2])

    def test_answers_of_different_days_stand_in_the_order_of_days(self):
        self.assert_thread([None, 0, 0, 0], [3, 6, 7, 8], [0, 1, 2, 3])
        self.assert_thread([None, 0, 0, 0], [3, 8, 7, 6], [0, 3, 2, 1])
        self.assert_thread([None, 0, 0, 0, 0], [3, 8, 6, 8, 6], [0, 2, 4, 1, 3])

    def test_days_are_ordered_as_numbers_and_not_as_texts(self):
        self.assert_thread([None, 0, 0], [1, 10, 9], [0, 2, 1])
        self.assert_thread([None, 0, 0], [-30, -1, -20], [0, 2, 1])
        self.assert_thread([None, 0, 0], [-3, 1, -2], [0, 2, 1])

    def test_each_letter_is_followed_by_what_answers_it(self):
        # Letter 3 is of a later day than letter 2, but answers letter 1 and so stands ahead.
        self.assert_thread([None, 0, 0, 1], [1, 2, 3, 9], [0, 1, 3, 2])
        self.assert_thread([None, 0, 0, 1, 2, 1], [1, 5, 3, 6, 9, 5], [0, 2, 4, 1, 5, 3])

    def test_an_answer_of_the_same_day(self):
        self.assert_thread([None, 0, 1, 0], [4, 4, 4, 4], [0, 1, 2, 3])

    def test_an_answer_with_a_lesser_number(self):
        self.assert_thread([1, None], [4, 4], [1, 0])
        self.assert_thread([2, 0, None], [5, 6, 4], [2, 0, 1])
        self.assert_thread([3, None, 1, 1, 3], [9, 2, 7, 5, 8], [1, 3, 4, 0, 2])

    def test_the_document_s_story(self):
        self.assert_thread([None, 0, None, 2], [3, 9, 2, 9], [2, 3])
        self.assert_thread([None, 0, None, 2], [3, 9, 2, 9], [0, 1])

    def test_all_small_books(self):
        for size, days in ((1, 1), (2, 2), (3, 3), (4, 3), (5, 1)):
            for links in all_links(size):
                for dates in itertools.product(range(days), repeat=size):
                    if is_of_point_four(links, dates):
                        self.assert_all_of_book(list(links), list(dates))

    def assert_all_of_book(self, links, dates):
        for number in range(len(links)):
            self.assertEqual(
                thread(links, dates, number), told_by_paths(links, dates, number), (links, dates, number))

    def test_chains_of_two_hundred_and_more(self):
        for size in (200, 230, 3000):
            self.assert_chain([None] + list(range(size - 1)), list(range(size)), list(range(size)))
            self.assert_chain([None] + list(range(size - 1)), [7] * size, list(range(size)))
            upward = list(range(1, size)) + [None]
            self.assert_chain(upward, [-day for day in range(size)], list(reversed(range(size))))

    def assert_chain(self, links, dates, told):
        for number in (told[0], told[len(told) // 2], told[-1]):
            self.assertEqual(thread(links, dates, number), told)

    def test_two_hundred_answers_to_one_letter(self):
        size = 220
        links = [None] + [0] * (size - 1)
        self.assert_chain(links, [0] * size, list(range(size)))
        self.assert_chain(links, [-size] + [-day for day in range(1, size)], [0] + list(range(size - 1, 0, -1)))

    def test_two_hundred_letters_in_trees(self):
        links = [None] + [(letter - 1) // 3 if letter % 40 else None for letter in range(1, 210)]
        dates = [0] * 210
        for letter in range(210):
            if links[letter] is not None:
                dates[letter] = dates[links[letter]] + (letter * 11) % 4
        for number in range(0, 210, 7):
            self.assertEqual(thread(links, dates, number), told_by_paths(links, dates, number))

    def test_days_of_a_hundred_figures(self):
        far = HUNDRED_FIGURES
        self.assert_thread([None, 0, 0, 0], [-far, far, far - 1, 1 - far], [0, 3, 2, 1])
        self.assert_thread([None, 0, 0], [far - 2, far, far - 1], [0, 2, 1])
        self.assert_thread([None, 0, 0], [-far, 2 - far, 1 - far], [0, 2, 1])
        self.assert_thread([None, 0, 0], [-far, far, far], [0, 1, 2])

    def test_the_lists_are_as_before(self):
        links = [3, None, 1, 1, 3, None]
        dates = [9, 2, 7, 5, 8, 2]
        first = thread(links, dates, 0)
        self.assertEqual(links, [3, None, 1, 1, 3, None])
        self.assertEqual(dates, [9, 2, 7, 5, 8, 2])
        first.append(5)
        self.assertEqual(thread(links, dates, 0), [1, 3, 4, 0, 2])


if __name__ == "__main__":
    unittest.main()
