"""The book: its letters, what hangs on what, and the days that are shut.

Each deed asks for all its refusals ahead of its first change, so that a refused one changes nothing.
"""

from letterdesk.days import counts, due_day
from letterdesk.errors import Answered, Copied, CountsNot, HasNone, HasOne, NoLetter, NoTerm
from letterdesk.errors import OtherPartner, OwnThread, SameWay, TooEarly
from letterdesk.letter import Letter, other_way
from letterdesk.threads import thread


class Book:
    """The letters by their numbers, void ones among them, and the shut days."""

    def __init__(self):
        self.letters = []
        self.shut = []

    def enter(self, way, day, partner, term):
        """Enter a letter that answers none, and tell its number."""
        check_term(term)
        return self.add_letter(way, day, partner, term).number

    def reply(self, number, day, term):
        """Enter a letter that answers this one and lies in its file, and tell its number."""
        asked = self.letter_at(number)
        check_term(term)
        check_days(asked.day, day)
        letter = self.add_letter(other_way(asked.way), day, asked.partner, term)
        letter.link = number
        letter.file = asked.file
        return letter.number

    def hang(self, number, other):
        """Let the letter answer the other one, and lay its thread in the other one's file."""
        letter = self.letter_at(number)
        asked = self.letter_at(other)
        self.check_hanging(letter, asked)
        self.lay_thread(number, asked.file)
        letter.link = other

    def loosen(self, number):
        """Let the letter answer none any more."""
        letter = self.letter_at(number)
        if letter.link is None:
            raise HasNone()
        letter.link = None

    def put_day(self, number, day):
        """Let the letter be of this day."""
        letter = self.letter_at(number)
        if letter.link is not None:
            check_days(self.letter_at(letter.link).day, day)
        for reply in self.answers_to(letter):
            check_days(day, reply.day)
        letter.day = day

    def put_term(self, number, term):
        """Let the letter have this term."""
        letter = self.letter_at(number)
        check_term(term)
        letter.term = term

    def send_copy(self, number, person):
        """Let a copy of the letter go to this person, and tell how many copies there are of it."""
        letter = self.letter_at(number)
        if letter.has_gone_to(person):
            raise Copied()
        letter.copies.append(person)
        return len(letter.copies)

    def lay_thread(self, number, name):
        """Lay the letter's whole thread in this file, and tell how many letters it has."""
        numbers = self.thread_of(number)
        for member in numbers:
            letter = self.letters[member]
            letter.file = name
        return len(numbers)

    def cancel(self, number):
        """Make the letter void."""
        letter = self.letter_at(number)
        if len(self.answers_to(letter)) > 0:
            raise Answered()
        letter.make_void()

    def shut_day(self, day):
        """Shut this day, for all letters."""
        if not counts(self.shut, day):
            raise CountsNot()
        self.shut.append(day)

    def state_of(self, number):
        """What is told of the letter, a tuple."""
        return self.letter_at(number).state()

    def thread_of(self, number):
        """The list of the numbers of the letter's thread."""
        # Asked for its refusal alone: a void letter still has a place in the lists below.
        self.letter_at(number)
        links = [letter.link for letter in self.letters]
        dates = [letter.day for letter in self.letters]
        return thread(links, dates, number)

    def copies_of(self, number):
        """The list of those who have copies of the letter, a list of its own that later copies leave as it is."""
        return list(self.letter_at(number).copies)

    def letters_in(self, name):
        """The list of the numbers of the letters in this file."""
        return [letter.number for letter in self.letters if letter.file == name]

    def waiting(self, day):
        """The list of the letters that wait on this day, those due earlier first."""
        return [pair[1] for pair in self.waiting_pairs(day)]

    def overdue(self, day):
        """The list of the letters that are overdue on this day, those due earlier first."""
        return [pair[1] for pair in self.waiting_pairs(day) if pair[0] < day]

    def standing_states(self):
        """For each number what is told of its letter, or the text void."""
        return ["void" if letter.void else letter.state() for letter in self.letters]

    def add_letter(self, way, day, partner, term):
        """Add a letter under the next number."""
        letter = Letter(len(self.letters), way, day, partner, term)
        self.letters.append(letter)
        return letter

    def letter_at(self, number):
        """The letter with this number."""
        # Ahead of the index, since a number below nought would find a letter from the end.
        if number < 0 or number >= len(self.letters) or self.letters[number].void:
            raise NoLetter()
        return self.letters[number]

    def answers_to(self, letter):
        """The list of the letters that answer this one."""
        return [other for other in self.letters if letter.is_answered_by(other)]

    def check_hanging(self, letter, asked):
        """Refuse where the letter can't answer the one that is asked."""
        if letter.link is not None:
            raise HasOne()
        if asked.number in self.thread_of(letter.number):
            raise OwnThread()
        if letter.way == asked.way:
            raise SameWay()
        if letter.partner != asked.partner:
            raise OtherPartner()
        check_days(asked.day, letter.day)

    def waiting_pairs(self, day):
        """For each letter that waits on this day its due day and its number, in this order."""
        answered = self.answered_by(day)
        pairs = []
        for letter in self.letters:
            if letter.term > 0 and letter.day <= day and letter.number not in answered:
                pairs.append((due_day(self.shut, letter.day, letter.term), letter.number))
        return sorted(pairs)

    def answered_by(self, day):
        """A dict with the number of each letter that one of this day or of an earlier one answers."""
        answered = {}
        for letter in self.letters:
            if letter.link is not None and letter.day <= day:
                answered[letter.link] = True
        return answered


def check_term(term):
    """Refuse a term below nought."""
    if term < 0:
        raise NoTerm()


def check_days(asked_day, reply_day):
    """Refuse an answer of an earlier day than the letter that it answers."""
    if reply_day < asked_day:
        raise TooEarly()
