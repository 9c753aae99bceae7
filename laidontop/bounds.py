"""The most and the least that days of wants lift."""

from laidontop.days import day_passings, each_day


def most(wants):
    """The most that a day of the wants lifts, behind the first one."""
    return each_day(wants, most_day(wants))


def least(wants):
    """The least that a day of the wants lifts, behind the first one."""
    return each_day(wants, least_day(wants))


def most_passings(wants):
    """How often any two of the books pass one another at most: rising tuples (one, other, number)."""
    # No two books have to yield for two others: in this day all pass one another the most often at once.
    return day_passings(wants, most_day(wants))


def amounts(wants):
    """All numbers that days of the wants lift, rising."""
    # Any day comes from any other by swaps of two neighbours. A swap bears on the passings of these two alone, and
    # by two or by nothing, so no even number between the least and the most is left out.
    return list(range(least(wants), most(wants) + 1, 2))


def most_day(wants):
    """A day that lifts the most."""
    # The day goes in rounds, and each round reads every book that is still wanted once. So any two books take turns
    # until the less wanted of them has been read up, and it passes and is passed around each of its readings.
    turns = [(turn, book) for book, many in wants for turn in range(many)]
    return tuple(book for turn, book in sorted(turns))


def least_day(wants):
    """A day that lifts the least."""
    # Any two books pass one another twice at least; side by side, the readings of a book cost no more than that.
    return tuple(book for book, many in wants for reader in range(many))
