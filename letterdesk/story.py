"""Stories: deeds done one by one on a new book, and their answers."""

from letterdesk.book import Book
from letterdesk.errors import Refused


def do_enter(book, deed):
    return book.enter(deed[0], deed[1], deed[2], deed[3])


def do_reply(book, deed):
    return book.reply(deed[1], deed[2], deed[3])


def do_hang(book, deed):
    book.hang(deed[1], deed[2])
    return "hung"


def do_loose(book, deed):
    book.loosen(deed[1])
    return "loose"


def do_date(book, deed):
    book.put_day(deed[1], deed[2])
    return "dated"


def do_term(book, deed):
    book.put_term(deed[1], deed[2])
    return "set"


def do_copy(book, deed):
    return book.send_copy(deed[1], deed[2])


def do_file(book, deed):
    return book.lay_thread(deed[1], deed[2])


def do_void(book, deed):
    book.cancel(deed[1])
    return "void"


def do_shut(book, deed):
    book.shut_day(deed[1])
    return "shut"


def ask_state(book, deed):
    return book.state_of(deed[1])


def ask_thread(book, deed):
    return book.thread_of(deed[1])


def ask_copies(book, deed):
    return book.copies_of(deed[1])


def ask_letters(book, deed):
    return book.letters_in(deed[1])


def ask_waiting(book, deed):
    return book.waiting(deed[1])


def ask_overdue(book, deed):
    return book.overdue(deed[1])


DEEDS = {
    "in": do_enter,
    "out": do_enter,
    "reply": do_reply,
    "hang": do_hang,
    "loose": do_loose,
    "date": do_date,
    "term": do_term,
    "copy": do_copy,
    "file": do_file,
    "void": do_void,
    "shut": do_shut,
    "state": ask_state,
    "thread": ask_thread,
    "copies": ask_copies,
    "letters": ask_letters,
    "waiting": ask_waiting,
    "overdue": ask_overdue,
}


def answers(deeds):
    """The list of the answers of a list of deeds."""
    book = Book()
    return [answer(book, deed) for deed in deeds]


def standing(deeds):
    """Behind the deeds, for each number what is told of its letter, or the text void; a list."""
    book = Book()
    for deed in deeds:
        answer(book, deed)
    return book.standing_states()


def answer(book, deed):
    """Do this deed on the book, and tell its answer."""
    do = DEEDS[deed[0]]
    try:
        return do(book, deed)
    except Refused as refusal:
        return refusal.words
