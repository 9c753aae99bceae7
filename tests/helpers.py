"""Inputs that several tests share, and a slow reading of piles that owes nothing to the package."""

from itertools import permutations, product

NO_NAMES = [
    "", "abcdefghi", "A", "aB", "a1", "7", "a b", " ", " a", "a ", "a\n", "\n", "a-b", "a_b", "~", "`", "{",
    None, True, False, 0, 1, -1, 10 ** 39, (), [], ("a",), ["a"], (("a",),),
    "\u00e9", "\u00aa", b"a", 1.5, {"a": 1}, {"a"}, object(),
]


def nested(inner, depth, wrap):
    """The inner thing within as many lists or tuples."""
    for _ in range(depth):
        inner = wrap([inner])
    return inner


ANYTHING = [
    0, 1, 7, -3, 10 ** 39, True, False, None, "", "a", "abc", "a b\nc", "~" * 400,
    [], [[]], ["a"], ["a", "b"], [("a", 1)], [1] * 400, ["a"] * 400, [None, [True, ("a", [2])]],
    (), ((),), (1,), (None,), (True,), ((1, 2), [3]), ("a", ["b"]), (["a"], "b"), ("a", ("b",)), ("a", None),
    (("a",), ("b",)), ("a",) * 400, ((1, 1),), (((("a", 1),),),), ([("a", 1)],),
    nested("a", 20, list), nested("a", 20, tuple), nested(("a", 1), 19, tuple), nested([], 19, tuple),
    1.5, b"a", {}, {"a": 1}, {"a"}, frozenset("a"), object(), len, range(3), iter("a"),
]


def worked(pile, readings):
    """(pile behind, lifted, passings), done book by book on a stack whose top is its last."""
    stack = list(reversed(pile))
    lifts = []
    counts = {(one, other): 0 for one in pile for other in pile if one < other}
    for book in readings:
        held = []
        while stack[-1] != book:
            held.append(stack.pop())
        taken = stack.pop()
        lifts.append(len(held))
        for passed in held:
            counts[min(taken, passed), max(taken, passed)] += 1
        while held:
            stack.append(held.pop())
        stack.append(taken)
    told = [(one, other, counts[one, other]) for one, other in sorted(counts)]
    return tuple(reversed(stack)), lifts, told


def rows(books, longest):
    """All readings of these books, of every length up to the longest."""
    return [list(row) for length in range(longest + 1) for row in product(books, repeat=length)]


def sixty(books):
    """Sixty readings that take up every book in an uneven order."""
    return [books[(k * k + k // 3) % len(books)] for k in range(60)]


def wants_up_to(readers, books=5):
    """All wants of at most so many books and readers, under fixed names."""
    names = ("a", "b", "c", "d", "e")
    counts = [row for many in range(1, books + 1) for row in product(range(1, 5), repeat=many)]
    return [tuple(zip(names, row)) for row in counts if sum(row) <= readers]


def days_of(wants):
    """All days of the wants."""
    names = [book for book, many in wants for _ in range(many)]
    return sorted(set(permutations(names)))


def worked_day(wants, day):
    """(lifted, passings) on the second of two such days, done book by book."""
    settled = worked(tuple(book for book, _ in wants), day)[0]
    _, lifts, told = worked(settled, day)
    return sum(lifts), told


def shortest_rows(pile):
    """{other pile: all rows of the fewest readings that make the pile this one}, by a search in widening rings."""
    found = {pile: [()]}
    ring = [pile]
    while ring:
        beyond = {}
        for order in ring:
            for book in order:
                to = worked(order, [book])[0]
                if to not in found:
                    beyond.setdefault(to, []).extend(row + (book,) for row in found[order])
        found.update(beyond)
        ring = list(beyond)
    return found
