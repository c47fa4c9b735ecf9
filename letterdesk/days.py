"""Days that count, and days on which something is due.

The days that count where nothing is shut have places: whole numbers without gaps, five to a week.
So a span or a term is reckoned at once, however long it is, and only shut days are walked.
"""

WEEK = 7
OPEN_DAYS = 5


def counts(shut, date):
    """True where the day counts, else False."""
    return open_by_rest(date) and date not in shut


def counted(shut, first, last):
    """How many days count from the day first to the day last, both among them."""
    if last < first:
        return 0
    closed = [date for date in closed_days(shut) if first <= date <= last]
    return place_of(last) - place_of(first - 1) - len(closed)


def due_day(shut, date, term):
    """The day on which something of this day is due by this term of one or more."""
    place = place_of(date) + term
    for closed in closed_days(shut):
        # Each step may reach a later closed day; since they are walked in order, that one is still to come.
        if date < closed <= day_at(place):
            place = place + 1
    return day_at(place)


def open_by_rest(date):
    """True where the day counts unless it is shut."""
    return date % WEEK < OPEN_DAYS


def closed_days(shut):
    """The days that do not count only because they are shut, each once, the earliest first."""
    return [date for date in sorted(set(shut)) if open_by_rest(date)]


def place_of(date):
    """The place of this day, or of the last one before it that has a place."""
    return date // WEEK * OPEN_DAYS + min(date % WEEK, OPEN_DAYS - 1)


def day_at(place):
    """The day that has this place."""
    return place // OPEN_DAYS * WEEK + place % OPEN_DAYS
