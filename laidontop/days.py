"""Wants, and days of readings that are done again and again."""

from laidontop.basics import is_name, is_whole_number
from laidontop.piles import behind, lifted, passings

MOST_WANTED_BOOKS = 5
MOST_READERS_OF_ONE = 4
MOST_READERS = 7


def are_wants(thing):
    """Whether the thing is a rising tuple of 1 to 5 pairs (book, many), at most 7 readers in all."""
    if not isinstance(thing, tuple):
        return False
    if not 1 <= len(thing) <= MOST_WANTED_BOOKS:
        return False
    if not all(is_want(pair) for pair in thing):
        return False
    return books_rise(thing) and sum(many for book, many in thing) <= MOST_READERS


def far_pile(pile, day, days):
    """The pile behind as many such days."""
    # The first day lays its books in the order of their last readings, and each later day does the same.
    return behind(pile, day) if days > 0 else pile


def far_lifted(pile, day, days):
    """How many books were lifted in all on as many such days."""
    if days <= 0:
        return 0
    first = sum(lifted(pile, day))
    # Each later day begins with the pile with which it ends, so all of them lift as many.
    later = sum(lifted(behind(pile, day), day))
    return first + (days - 1) * later


def each_day(wants, day):
    """How many books each day behind the first one lifts."""
    return sum(lifted(settled_pile(wants, day), day))


def day_passings(wants, day):
    """How often any two wanted books pass one another on each day behind the first one."""
    return passings(settled_pile(wants, day), day)


def is_want(thing):
    """Whether the thing is a pair of a name and a number from 1 to 4."""
    if not isinstance(thing, tuple) or len(thing) != 2:
        return False
    book, many = thing
    return is_name(book) and is_whole_number(many) and 1 <= many <= MOST_READERS_OF_ONE


def books_rise(wants):
    """Whether each book is greater than the one before it, and so none stands twice."""
    books = [book for book, many in wants]
    return books == sorted(set(books))


def settled_pile(wants, day):
    """The wanted books as they lie behind the first day."""
    # Books that nobody wants lie below the wanted ones by then and are lifted no more.
    return behind(tuple(book for book, many in wants), day)
