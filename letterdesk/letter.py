"""A letter of the book."""


class Letter:
    """A letter: at first it answers none, lies in the file of the empty text, and no copy of it has gone out."""

    def __init__(self, number, way, day, partner, term):
        self.number = number
        self.way = way
        self.day = day
        self.partner = partner
        self.term = term
        self.link = None
        self.file = ""
        self.copies = []
        self.void = False

    def state(self):
        """What is told of the letter: way, day, partner, term, the letter that it answers, and the file."""
        return (self.way, self.day, self.partner, self.term, self.link, self.file)

    def is_answered_by(self, other):
        """True where the other letter answers this one."""
        return other.link == self.number

    def has_gone_to(self, person):
        """True where the person is the partner or has a copy."""
        return person == self.partner or person in self.copies

    def make_void(self):
        """Make the letter void: it answers none, lies in no file, and needs no answer."""
        self.void = True
        self.link = None
        self.file = None
        self.term = 0


def other_way(way):
    """The way of a letter that answers one of this way."""
    return "out" if way == "in" else "in"
