"""Points 4 to 10 over many stories made by chance, against a book written down as plainly as the document."""

import random
import unittest

from letterdesk.story import answers, standing

REFUSALS = ("no letter", "no term", "has one", "has none", "own thread", "same way", "other partner", "too early",
            "copied", "answered", "counts not")


class PlainBook:
    """Facts by letter, each in a dict of its own; a file is kept for the top of each thread alone."""

    def __init__(self):
        self.size = 0
        self.way, self.day, self.partner, self.term, self.link = {}, {}, {}, {}, {}
        self.file_of_top, self.persons = {}, {}
        self.shut = []

    def top(self, number):
        while number in self.link:
            number = self.link[number]
        return number

    def replies(self, number):
        return [reply for reply in self.link if self.link[reply] == number]

    def path(self, number):
        """Days and numbers from the top down; sorted by these, letters stand as point 5 tells."""
        above = self.path(self.link[number]) if number in self.link else []
        return above + [(self.day[number], number)]

    def thread(self, number):
        return sorted((n for n in self.way if self.top(n) == self.top(number)), key=self.path)

    def file(self, number):
        return self.file_of_top[self.top(number)]

    def due(self, number):
        day, left = self.day[number], self.term[number]
        while left:
            day += 1
            left -= self.counts(day)
        return day

    def counts(self, day):
        return day % 7 in range(5) and day not in self.shut

    def waits(self, number, day):
        return (self.term[number] >= 1 and self.day[number] <= day
                and not any(self.day[reply] <= day for reply in self.replies(number)))

    def waiting(self, day):
        return sorted((n for n in self.way if self.waits(n, day)), key=lambda n: (self.due(n), n))

    def state(self, n):
        return (self.way[n], self.day[n], self.partner[n], self.term[n], self.link.get(n), self.file(n))

    def standing(self):
        return [self.state(n) if n in self.way else "void" for n in range(self.size)]

    def refusals(self, deed):
        """The refusals that hold, one after the other; those behind the first may need what is not there."""
        name, first = deed[0], deed[1]
        if name not in ("in", "out", "shut", "letters", "waiting", "overdue"):
            if first not in self.way or name == "hang" and deed[2] not in self.way:
                yield "no letter"
        if name in ("in", "out", "reply", "term") and deed[-1] < 0:
            yield "no term"
        if name == "hang":
            yield from self.hang_refusals(first, deed[2])
        if name == "loose" and first not in self.link:
            yield "has none"
        if name == "reply" and deed[2] < self.day[first]:
            yield "too early"
        if name == "date":
            days = {**self.day, first: deed[2]}
            if any(days[reply] < days[link] for reply, link in self.link.items()):
                yield "too early"
        if name == "copy" and deed[2] in [self.partner[first]] + self.persons[first]:
            yield "copied"
        if name == "void" and self.replies(first):
            yield "answered"
        if name == "shut" and not self.counts(first):
            yield "counts not"

    def hang_refusals(self, number, other):
        if number in self.link:
            yield "has one"
        if self.top(number) == self.top(other):
            yield "own thread"
        if self.way[number] == self.way[other]:
            yield "same way"
        if self.partner[number] != self.partner[other]:
            yield "other partner"
        if self.day[number] < self.day[other]:
            yield "too early"

    def answer(self, deed):
        for refusal in self.refusals(deed):
            return refusal
        return getattr(self, "do_" + deed[0])(*deed[1:])

    def enter(self, way, day, partner, term):
        number = self.size
        self.size += 1
        self.way[number], self.day[number], self.partner[number], self.term[number] = way, day, partner, term
        self.persons[number] = []
        return number

    def do_in(self, day, partner, term, way="in"):
        number = self.enter(way, day, partner, term)
        self.file_of_top[number] = ""
        return number

    def do_out(self, day, partner, term):
        return self.do_in(day, partner, term, "out")

    def do_reply(self, number, day, term):
        reply = self.enter({"in": "out", "out": "in"}[self.way[number]], day, self.partner[number], term)
        self.link[reply] = number
        return reply

    def do_hang(self, number, other):
        del self.file_of_top[number]
        self.link[number] = other
        return "hung"

    def do_loose(self, number):
        self.file_of_top[number] = self.file(number)
        del self.link[number]
        return "loose"

    def do_date(self, number, day):
        self.day[number] = day
        return "dated"

    def do_term(self, number, term):
        self.term[number] = term
        return "set"

    def do_copy(self, number, person):
        self.persons[number].append(person)
        return len(self.persons[number])

    def do_file(self, number, name):
        self.file_of_top[self.top(number)] = name
        return len(self.thread(number))

    def do_void(self, number):
        for facts in (self.way, self.day, self.partner, self.term, self.link, self.file_of_top, self.persons):
            facts.pop(number, None)
        return "void"

    def do_shut(self, day):
        self.shut.append(day)
        return "shut"

    def do_state(self, number):
        return self.state(number)

    def do_thread(self, number):
        return self.thread(number)

    def do_copies(self, number):
        return list(self.persons[number])

    def do_letters(self, name):
        return [number for number in sorted(self.way) if self.file(number) == name]

    def do_waiting(self, day):
        return self.waiting(day)

    def do_overdue(self, day):
        return [number for number in self.waiting(day) if self.due(number) < day]


class Chance:
    """Deeds by chance, from few days, texts and numbers, so that much of it meets."""

    def __init__(self, seed, base=0, size=30):
        self.random = random.Random(seed)
        self.base = base
        self.size = size

    def value(self, kind):
        pick = self.random
        if kind == "number":
            return pick.choice((-1, self.size, self.size + 1)) if pick.random() < 0.06 else pick.randrange(self.size)
        if kind == "day":
            return self.base + pick.randrange(-4, 25)
        if kind == "term":
            return pick.choice((-1, 0, 0, 1, 1, 2, 3, 5, 12))
        return pick.choice({"partner": ("ann", "ann", ""), "person": ("ann", "eve", "dan", ""),
                            "name": ("", "tax", "rent")}[kind])

    def deed(self, kinds):
        name = self.random.choice(list(kinds))
        return (name,) + tuple(self.value(kind) for kind in kinds[name])


KINDS = {
    "in": ("day", "partner", "term"), "out": ("day", "partner", "term"), "reply": ("number", "day", "term"),
    "hang": ("number", "number"), "loose": ("number",), "date": ("number", "day"), "term": ("number", "term"),
    "copy": ("number", "person"), "file": ("number", "name"), "void": ("number",), "shut": ("day",),
    "state": ("number",), "thread": ("number",), "copies": ("number",), "letters": ("name",), "waiting": ("day",),
    "overdue": ("day",),
}
ENTERING = {name: KINDS[name] for name in ("in", "out", "reply")}
HANGING = {name: KINDS[name] for name in ("hang", "loose", "date", "file", "void", "thread", "letters", "overdue")}


def story_by_chance(chance, entering, others):
    """Letters first, as many as the numbers by chance reach, then deeds of all sorts."""
    deeds = [chance.deed(ENTERING) for step in range(entering)]
    deeds += [chance.deed(KINDS) for step in range(others // 2)]
    return deeds + [chance.deed(HANGING) for step in range(others - others // 2)]


class PlainBookTest(unittest.TestCase):
    def assert_as_plain(self, deeds):
        book = PlainBook()
        told = [book.answer(deed) for deed in deeds]
        mine = answers(deeds)
        for step, deed in enumerate(deeds):
            self.assertEqual(mine[step], told[step], (step, deed, deeds[:step]))
        self.assertEqual(standing(deeds), book.standing())
        return told

    def test_short_stories(self):
        for seed in range(1500):
            self.assert_as_plain(story_by_chance(Chance(seed, size=5), 4, 12))

    def test_stories_of_middle_length(self):
        for seed in range(250):
            self.assert_as_plain(story_by_chance(Chance(seed, size=14), 14, 60))

    def test_stories_of_two_hundred_deeds_and_more(self):
        for seed in range(12):
            self.assert_as_plain(story_by_chance(Chance(seed, size=45), 60, 140 + seed * 3))

    def test_stories_on_far_days(self):
        for seed in range(60):
            for base in (10 ** 99, -10 ** 99, 10 ** 100 - 30, 30 - 10 ** 100):
                self.assert_as_plain(story_by_chance(Chance(seed, base, 8), 8, 30))

    def test_chance_meets_each_refusal_and_each_deed(self):
        met = {}
        done = {}
        for seed in range(250):
            deeds = story_by_chance(Chance(seed, size=14), 14, 60)
            for deed, answer in zip(deeds, answers(deeds)):
                counter = met if answer in REFUSALS else done
                key = answer if answer in REFUSALS else deed[0]
                counter[key] = counter.get(key, 0) + 1
        self.assertEqual(sorted(met), sorted(REFUSALS))
        self.assertEqual(sorted(done), sorted(KINDS))
        self.assertGreater(min(met.values()), 20)
        self.assertGreater(min(done.values()), 50)


if __name__ == "__main__":
    unittest.main()
