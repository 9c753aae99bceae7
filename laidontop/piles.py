"""Piles, and what readings do to them."""

from laidontop.basics import is_name

MOST_BOOKS = 7


def is_pile(thing):
    """Whether the thing is a tuple of 1 to 7 unlike names."""
    if not isinstance(thing, tuple):
        return False
    if not 1 <= len(thing) <= MOST_BOOKS:
        return False
    # Only names are sure to be hashable, so they are asked for first.
    if not all(is_name(book) for book in thing):
        return False
    return len(set(thing)) == len(thing)


def behind(pile, readings):
    """The pile behind the readings."""
    order = pile
    for book in readings:
        order = laid_on_top(order, book)
    return order


def lifted(pile, readings):
    """How many books were lifted at each reading."""
    numbers = []
    order = pile
    for book in readings:
        numbers.append(order.index(book))
        order = laid_on_top(order, book)
    return numbers


def passings(pile, readings):
    """How often any two books of the pile passed one another: rising tuples (one, other, number)."""
    pairs = pairs_of(pile)
    numbers = {pair: 0 for pair in pairs}
    order = pile
    for book in readings:
        for passed in books_above(order, book):
            numbers[as_pair(book, passed)] += 1
        order = laid_on_top(order, book)
    return [(one, other, numbers[(one, other)]) for one, other in pairs]


def laid_on_top(pile, book):
    """The pile behind one reading of the book."""
    at = pile.index(book)
    return (book,) + pile[:at] + pile[at + 1:]


def books_above(pile, book):
    """The books that lie above this one, as they lie."""
    return pile[:pile.index(book)]


def pairs_of(books):
    """All two of the books, the lesser one first, rising."""
    ordered = sorted(books)
    return [(one, other) for at, one in enumerate(ordered) for other in ordered[at + 1:]]


def as_pair(book, passed):
    """Both books, the lesser one first, since passings count both ways together."""
    return (book, passed) if book < passed else (passed, book)
