"""Point 1: stories of two hundred deeds and somewhat more, threads as deep and as wide as that, and far days."""

import unittest

from letterdesk.story import answers, standing

HUNDRED_FIGURES = 10 ** 100 - 1
SIZES = (199, 200, 230)


def asked(deeds, *questions):
    return answers(deeds + list(questions))[len(deeds):]


def ways(first, size):
    other = "out" if first == "in" else "in"
    return [first if number % 2 == 0 else other for number in range(size)]


def chain(size, start, step):
    """Each letter answers the one before it."""
    return [("in", start, "ann", 1)] + [("reply", number, start + step * (number + 1), 1) for number in range(size - 1)]


def fan(size, start):
    """All letters answer the first one, those with greater numbers on earlier days."""
    return [("in", start, "ann", 1)] + [("reply", 0, start + size - number, 1) for number in range(1, size)]


class DeepTest(unittest.TestCase):
    def test_a_chain_of_replies(self):
        for size in SIZES:
            deeds = chain(size, 0, 1)
            self.assertEqual(answers(deeds), list(range(size)))
            links = [None] + list(range(size - 1))
            self.assertEqual(standing(deeds), [
                (way, number, "ann", 1, link, "")
                for number, (way, link) in enumerate(zip(ways("in", size), links))])
            for number in (0, size // 2, size - 1):
                self.assertEqual(asked(deeds, ("thread", number)), [list(range(size))])
                self.assertEqual(asked(deeds, ("file", number, "x"), ("letters", "x")), [size, list(range(size))])

    def test_only_the_end_of_a_chain_waits(self):
        for size in SIZES:
            deeds = chain(size, 0, 1)
            self.assertEqual(asked(deeds, ("waiting", size), ("waiting", 50)), [[size - 1], [50]])
            self.assertEqual(asked(deeds, ("overdue", 5 * size)), [[size - 1]])

    def test_each_of_a_slow_chain_is_overdue_for_a_while(self):
        deeds = chain(60, 0, 21)
        self.assertEqual(asked(deeds, ("overdue", 21 * 30 + 1), ("overdue", 21 * 30 + 2)), [[], [30]])

    def test_the_whole_chain_hangs_on_another(self):
        for size in SIZES:
            half = size // 2
            first = [("in", 0, "ann", 0)] + [("reply", number, 0, 0) for number in range(half - 1)]
            second = [("out", 0, "ann", 0)] + [("reply", half + number, 0, 0) for number in range(half - 1)]
            # The last letter of the way `in`; where another one answers it, that one has the lesser number.
            end = (half - 1) // 2 * 2
            deeds = first + second + [("file", 0, "x"), ("file", half, "y"), ("hang", half, end), ("letters", "x")]
            self.assertEqual(answers(deeds)[-4:], [half, half, "hung", list(range(2 * half))])
            self.assertEqual(asked(deeds, ("thread", half)), [list(range(2 * half))])
            self.assertEqual(asked(deeds, ("hang", 0, 2 * half - 1)), ["own thread"])

    def test_a_chain_is_loosened_in_the_middle(self):
        for size in SIZES:
            middle = size // 2
            deeds = chain(size, 0, 1) + [("file", 0, "x"), ("loose", middle), ("file", size - 1, "y")]
            self.assertEqual(answers(deeds)[-1], size - middle)
            self.assertEqual(asked(deeds, ("letters", "x"), ("letters", "y")), [
                list(range(middle)), list(range(middle, size))])

    def test_a_chain_is_made_void_from_its_end(self):
        deeds = chain(100, 0, 1) + [("void", number) for number in range(99, -1, -1)]
        self.assertEqual(answers(deeds)[100:], ["void"] * 100)
        self.assertEqual(standing(deeds), ["void"] * 100)
        wrong = chain(100, 0, 1) + [("void", number) for number in range(99)]
        self.assertEqual(answers(wrong)[100:], ["answered"] * 99)

    def test_a_chain_of_one_day_put_a_day_later_from_its_end(self):
        deeds = chain(100, 5, 0)
        ahead = deeds + [("date", number, 6) for number in range(99)]
        behind = deeds + [("date", number, 6) for number in range(99, -1, -1)]
        self.assertEqual(answers(ahead)[100:], ["too early"] * 99)
        self.assertEqual(answers(behind)[100:], ["dated"] * 100)

    def test_far_beyond_what_is_asked_for(self):
        deeds = chain(1200, 0, 1)
        self.assertEqual(asked(deeds, ("thread", 1199), ("waiting", 1200)), [list(range(1200)), [1199]])


class WideTest(unittest.TestCase):
    def test_all_answer_one_letter(self):
        for size in SIZES:
            deeds = fan(size, 0)
            told = [0] + list(range(size - 1, 0, -1))
            self.assertEqual(asked(deeds, ("thread", 0), ("thread", size - 1)), [told, told])
            self.assertEqual(asked(deeds, ("file", size // 2, "x"), ("letters", "x")), [size, list(range(size))])
            self.assertEqual(asked(deeds, ("void", 0), ("date", 0, 1), ("date", 0, 2)), [
                "answered", "dated", "too early"])

    def test_all_hang_on_one_letter(self):
        size = 110
        deeds = [("out", 9, "ann", 0)] * (size - 1) + [("in", 9, "ann", 3)]
        deeds = deeds + [("hang", number, size - 1) for number in range(size - 1)]
        self.assertEqual(answers(deeds)[size:], ["hung"] * (size - 1))
        self.assertEqual(asked(deeds, ("thread", 3)), [[size - 1] + list(range(size - 1))])

    def test_many_letters_wait(self):
        for size in SIZES:
            deeds = [("in", -number, "ann", 1 + number % 3) for number in range(size)]
            waits = asked(deeds, ("waiting", 0))[0]
            self.assertEqual(sorted(waits), list(range(size)))
            self.assertEqual(asked(deeds, ("overdue", 99)), [waits])

    def test_many_copies(self):
        persons = [str(number) for number in range(220)]
        deeds = [("in", 0, "ann", 0)] + [("copy", 0, person) for person in persons]
        self.assertEqual(answers(deeds), [0] + list(range(1, 221)))
        self.assertEqual(asked(deeds, ("copies", 0), ("copy", 0, "7")), [persons, "copied"])

    def test_many_questions(self):
        shut = [("shut", day) for day in range(7, 90) if day % 7 < 5][:60]
        letters = [("in", number % 9, "ann", 1000 - number) for number in range(70)]
        deeds = shut + letters + [("overdue", 5000 - number) for number in range(100)]
        told = answers(deeds)[130:]
        self.assertEqual([len(numbers) for numbers in told], [70] * 100)
        self.assertEqual(told[0][0], 69)


class FarTest(unittest.TestCase):
    def test_threads_on_days_of_a_hundred_figures(self):
        for start in (HUNDRED_FIGURES, -HUNDRED_FIGURES, HUNDRED_FIGURES * 1000):
            self.assertEqual(asked(chain(200, start, 1), ("thread", 199)), [list(range(200))])
            self.assertEqual(asked(fan(200, start), ("thread", 0)), [[0] + list(range(199, 0, -1))])
            self.assertEqual(standing(chain(3, start, 1)), [
                ("in", start, "ann", 1, None, ""), ("out", start + 1, "ann", 1, 0, ""),
                ("in", start + 2, "ann", 1, 1, "")])

    def test_terms_of_a_hundred_figures_are_kept(self):
        deeds = [("in", 0, "ann", HUNDRED_FIGURES), ("term", 0, HUNDRED_FIGURES + 1), ("waiting", 0)]
        self.assertEqual(answers(deeds), [0, "set", [0]])
        self.assertEqual(standing(deeds), [("in", 0, "ann", HUNDRED_FIGURES + 1, None, "")])

    def test_from_one_end_of_the_days_to_the_other(self):
        deeds = [("in", -HUNDRED_FIGURES, "ann", 1), ("reply", 0, HUNDRED_FIGURES, 1), ("date", 0, HUNDRED_FIGURES),
                 ("reply", 1, HUNDRED_FIGURES - 1, 1), ("date", 0, -HUNDRED_FIGURES), ("date", 1, -HUNDRED_FIGURES),
                 ("date", 1, -HUNDRED_FIGURES - 1)]
        self.assertEqual(answers(deeds), [0, 1, "dated", "too early", "dated", "dated", "too early"])


if __name__ == "__main__":
    unittest.main()
