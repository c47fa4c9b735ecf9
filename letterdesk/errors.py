"""The refusals of the book, an error for each; a refused deed is answered with the words of its error."""


class Refused(Exception):
    """What all refusals are, so that whoever answers a deed need not name each."""

    def __init__(self, words):
        self.words = words


class NoLetter(Refused):
    """There is no letter with this number, or it is void."""

    def __init__(self):
        Refused.__init__(self, "no letter")


class NoTerm(Refused):
    """A term is below nought."""

    def __init__(self):
        Refused.__init__(self, "no term")


class HasOne(Refused):
    """A letter is to hang that answers one already."""

    def __init__(self):
        Refused.__init__(self, "has one")


class HasNone(Refused):
    """A letter is to be loosened that answers none."""

    def __init__(self):
        Refused.__init__(self, "has none")


class OwnThread(Refused):
    """A letter is to hang on one of its own thread."""

    def __init__(self):
        Refused.__init__(self, "own thread")


class SameWay(Refused):
    """A letter is to hang on one of the same way."""

    def __init__(self):
        Refused.__init__(self, "same way")


class OtherPartner(Refused):
    """A letter is to hang on one of another partner."""

    def __init__(self):
        Refused.__init__(self, "other partner")


class TooEarly(Refused):
    """An answer would be of an earlier day than the letter that it answers."""

    def __init__(self):
        Refused.__init__(self, "too early")


class Copied(Refused):
    """A copy is to go to the letter's partner, or to a person who has one already."""

    def __init__(self):
        Refused.__init__(self, "copied")


class Answered(Refused):
    """A letter is to be void that some letter answers."""

    def __init__(self):
        Refused.__init__(self, "answered")


class CountsNot(Refused):
    """A day is to be shut that does not count already."""

    def __init__(self):
        Refused.__init__(self, "counts not")
