"""The readings that numbers of lifted books tell, and the fewest readings from one pile to another."""

from laidontop.piles import behind, laid_on_top, lifted


def readings_by(pile, numbers):
    """The readings of the pile that lift just these numbers."""
    readings = []
    order = pile
    for number in liftable(pile, numbers):
        book = order[number]
        readings.append(book)
        order = laid_on_top(order, book)
    return readings


def undone(pile, numbers):
    """(the pile from which just these numbers were lifted, last this pile being there; the readings)."""
    readings = []
    order = pile
    for number in reversed(liftable(pile, numbers)):
        # Whoever read last laid their book on top, so the pile behind tells it.
        readings.append(order[0])
        order = put_back(order, number)
    return order, readings[::-1]


def piles_for(pile, readings, numbers):
    """All piles of these books by which the readings lift just these numbers, rising."""
    # However the pile lay, the books that were read lie on top behind the readings, in the order of their last
    # readings. Only the others are free there, and each order of them has but one pile that it may come from.
    last = behind(pile, readings)
    many = len(set(readings))
    starts = [undone(last[:many] + below, numbers)[0] for below in orders_of(last[many:])]
    return sorted([start for start in starts if lifted(start, readings) == numbers])


def fewest_to(pile, other):
    """The fewest readings that make the first pile the other."""
    # Books that nobody reads keep their order and end below all others: the more of the other pile's lowest books
    # lie in their order already, the fewer are to be read, each of them once.
    many = len(other)
    for book in reversed(pile):
        if book == other[many - 1]:
            many -= 1
    return list(reversed(other[:many]))


def liftable(pile, numbers):
    """Those of the numbers that a reading of the pile can lift."""
    # A number beyond them is no error, but no book lies there: it stands for no reading.
    return [number for number in numbers if 0 <= number < len(pile)]


def put_back(pile, number):
    """The pile ahead of the reading that lifted this number and laid the top book there."""
    return pile[1:number + 1] + pile[:1] + pile[number + 1:]


def orders_of(books):
    """All orders in which the books may lie."""
    orders = [()]
    for book in books:
        orders = [order[:at] + (book,) + order[at:] for order in orders for at in range(len(order) + 1)]
    return orders
