"""Points 8 and 9: numbers that tell readings and piles, and the fewest readings from one pile to another."""

import unittest
from itertools import permutations, product

from laidontop.codes import fewest_to, piles_for, readings_by, undone
from laidontop.piles import behind, lifted
from tests.helpers import rows, shortest_rows, sixty, worked

SEVEN = ("g", "c", "e", "a", "f", "b", "d")
PILES = [SEVEN[:many] for many in range(1, 8)]


def sixty_numbers(many):
    """Sixty numbers below this one, in an uneven order, all of them among these."""
    return [(k * k + 3 * k + k // 5) % many for k in range(60)]


class ReadingsBy(unittest.TestCase):
    def test_worked_by_hand(self):
        pile = ("a", "b", "c")
        self.assertEqual(readings_by(pile, [2]), ["c"])
        self.assertEqual(readings_by(pile, [0, 0]), ["a", "a"])
        self.assertEqual(readings_by(pile, [2, 2, 2]), ["c", "b", "a"])
        self.assertEqual(readings_by(pile, [1, 1, 2, 0]), ["b", "a", "c", "c"])

    def test_no_numbers(self):
        for pile in PILES:
            self.assertEqual(readings_by(pile, []), [])

    def test_one_book_alone(self):
        self.assertEqual(readings_by(("a",), [0] * 60), ["a"] * 60)

    def test_all_short_numbers(self):
        for many in range(1, 5):
            for pile in permutations("abcd"[:many]):
                for numbers in rows(range(many), 4):
                    told = readings_by(pile, numbers)
                    self.assertEqual(worked(pile, told)[1], numbers)

    def test_sixty_numbers(self):
        for pile in PILES:
            for length in (1, 17, 59, 60):
                numbers = sixty_numbers(len(pile))[:length]
                told = readings_by(pile, numbers)
                self.assertEqual(len(told), length)
                self.assertEqual(worked(pile, told)[1], numbers)

    def test_back_to_the_readings(self):
        for pile in PILES:
            readings = sixty(pile)
            self.assertEqual(readings_by(pile, worked(pile, readings)[1]), readings)

    def test_somewhat_beyond_the_limits(self):
        pile = tuple("jihgfedcba")
        numbers = sixty_numbers(10) * 2
        self.assertEqual(lifted(pile, readings_by(pile, numbers)), numbers)
        # No reading lifts so many: such a number stands for none.
        self.assertEqual(readings_by(("a", "b"), [2, 1, -1]), ["b"])
        self.assertEqual(readings_by((), [0]), [])


class Undone(unittest.TestCase):
    def check(self, pile, readings):
        last, numbers, _ = worked(pile, readings)
        self.assertEqual(undone(last, numbers), (pile, readings))

    def test_worked_by_hand(self):
        pile = ("c", "a", "b")
        self.assertEqual(undone(pile, [2]), (("a", "b", "c"), ["c"]))
        self.assertEqual(undone(pile, [0]), (pile, ["c"]))
        self.assertEqual(undone(pile, [1]), (("a", "c", "b"), ["c"]))
        # c was lifted from below a and b last, and ahead of it a from below b.
        self.assertEqual(undone(pile, [1, 2]), (("b", "a", "c"), ["a", "c"]))
        self.assertEqual(undone(pile, [2, 1]), (("c", "b", "a"), ["a", "c"]))

    def test_no_numbers(self):
        for pile in PILES:
            self.assertEqual(undone(pile, []), (pile, []))

    def test_one_book_alone(self):
        self.assertEqual(undone(("a",), [0] * 60), (("a",), ["a"] * 60))

    def test_all_short_readings(self):
        for many in range(1, 5):
            for pile in permutations("abcd"[:many]):
                for readings in rows(pile, 4):
                    self.check(pile, readings)

    def test_all_short_numbers(self):
        for many in range(1, 5):
            for last in permutations("abcd"[:many]):
                for numbers in rows(range(many), 4):
                    pile, readings = undone(last, numbers)
                    self.assertEqual(worked(pile, readings)[:2], (last, numbers))

    def test_sixty_readings_and_numbers(self):
        for pile in PILES:
            for length in (1, 17, 59, 60):
                self.check(pile, sixty(pile)[:length])
                numbers = sixty_numbers(len(pile))[:length]
                ahead, readings = undone(pile, numbers)
                self.assertEqual(worked(ahead, readings)[:2], (pile, numbers))

    def test_somewhat_beyond_the_limits(self):
        pile = tuple("jihgfedcba")
        self.check(pile, sixty(pile) * 2)
        self.assertEqual(undone(("a", "b"), [2, 1, -1]), (("b", "a"), ["a"]))
        self.assertEqual(undone((), [0]), ((), []))


class PilesFor(unittest.TestCase):
    def sought(self, pile, readings, numbers):
        return [order for order in sorted(permutations(pile)) if worked(order, readings)[1] == numbers]

    def test_worked_by_hand(self):
        pile = ("b", "c", "a")
        self.assertEqual(piles_for(pile, ["a"], [0]), [("a", "b", "c"), ("a", "c", "b")])
        self.assertEqual(piles_for(pile, ["a"], [2]), [("b", "c", "a"), ("c", "b", "a")])
        self.assertEqual(piles_for(pile, ["a", "b"], [2, 2]), [("c", "b", "a")])
        self.assertEqual(piles_for(pile, ["a", "b", "c"], [0, 1, 2]), [("a", "b", "c")])
        self.assertEqual(piles_for(("b", "a"), ["a", "b"], [1, 1]), [("b", "a")])

    def test_numbers_that_these_readings_never_lift(self):
        pile = ("b", "c", "a")
        self.assertEqual(piles_for(pile, ["a", "a"], [0, 1]), [])
        self.assertEqual(piles_for(pile, ["a", "b"], [0, 0]), [])
        self.assertEqual(piles_for(pile, ["a", "b", "a"], [0, 1, 2]), [])

    def test_no_readings(self):
        for pile in PILES:
            self.assertEqual(piles_for(pile, [], []), sorted(permutations(pile)))

    def test_small_piles_by_all_readings_and_numbers(self):
        for many, longest in [(1, 4), (2, 4), (3, 4), (4, 3)]:
            pile = tuple("bdac"[:many])
            for readings in rows(pile, longest):
                by_numbers = {}
                for order in sorted(permutations(pile)):
                    by_numbers.setdefault(tuple(worked(order, readings)[1]), []).append(order)
                for numbers in product(range(many), repeat=len(readings)):
                    told = piles_for(pile, readings, list(numbers))
                    self.assertEqual(told, by_numbers.get(numbers, []), (readings, numbers))

    def test_its_own_order_is_of_no_matter(self):
        readings, numbers = ["d", "a", "d", "b"], [2, 2, 1, 3]
        told = piles_for(("a", "b", "c", "d", "e"), readings, numbers)
        self.assertEqual(told, self.sought("abcde", readings, numbers))
        self.assertGreater(len(told), 1)
        for pile in permutations("abcde"):
            self.assertEqual(piles_for(pile, readings, numbers), told)

    def test_seven_books(self):
        for length in (1, 2, 3, 5):
            readings = ["e", "a", "e", "b", "g"][:length]
            numbers = worked(SEVEN, readings)[1]
            told = piles_for(SEVEN, readings, numbers)
            self.assertIn(SEVEN, told)
            self.assertEqual(told, self.sought(SEVEN, readings, numbers))

    def test_sixty_readings(self):
        for pile in PILES:
            readings = sixty(pile)
            numbers = worked(pile, readings)[1]
            told = piles_for(pile[::-1], readings, numbers)
            self.assertEqual(told, self.sought(pile, readings, numbers))
            self.assertIn(pile, told)
        # All books are read here, so that the numbers leave one pile alone.
        self.assertEqual(piles_for(SEVEN, list(SEVEN) * 8, worked(SEVEN, list(SEVEN) * 8)[1]), [SEVEN])

    def test_somewhat_beyond_the_limits(self):
        pile = tuple("hgfedcba")
        told = piles_for(pile, ["a", "b", "c", "d", "e"], [7, 7, 7, 7, 7])
        self.assertEqual(told, [order + ("e", "d", "c", "b", "a") for order in sorted(permutations("fgh"))])
        self.assertEqual(piles_for(("a", "b"), ["a"], [2]), [])
        self.assertEqual(piles_for(("a", "b"), ["a"], [-1]), [])
        self.assertEqual(piles_for(("a", "b"), ["a"], [0, 2]), [])
        self.assertEqual(piles_for(("a", "b"), ["a", "b"], [0]), [])
        self.assertEqual(piles_for((), [], []), [()])


class FewestTo(unittest.TestCase):
    def test_worked_by_hand(self):
        pile = ("a", "b", "c", "d")
        self.assertEqual(fewest_to(pile, ("d", "a", "b", "c")), ["d"])
        self.assertEqual(fewest_to(pile, ("b", "a", "c", "d")), ["b"])
        self.assertEqual(fewest_to(pile, ("b", "d", "a", "c")), ["d", "b"])
        self.assertEqual(fewest_to(pile, ("a", "d", "b", "c")), ["d", "a"])
        self.assertEqual(fewest_to(pile, ("d", "c", "b", "a")), ["b", "c", "d"])
        self.assertEqual(fewest_to(pile, ("b", "c", "d", "a")), ["d", "c", "b"])

    def test_the_same_pile(self):
        for pile in PILES:
            self.assertEqual(fewest_to(pile, pile), [])

    def test_it_leads_there(self):
        for pile in PILES:
            for other in permutations(pile):
                self.assertEqual(behind(pile, fewest_to(pile, other)), other)

    def test_the_fewest_and_no_others_as_few(self):
        for many in range(1, 6):
            for pile in permutations("abcde"[:many]):
                for other, found in shortest_rows(pile).items():
                    self.assertEqual([tuple(fewest_to(pile, other))], found, (pile, other))

    def test_seven_books_to_all_orders(self):
        found = shortest_rows(SEVEN)
        self.assertEqual(len(found), 5040)
        for other in found:
            self.assertEqual([tuple(fewest_to(SEVEN, other))], found[other], other)

    def test_somewhat_beyond_the_limits(self):
        pile = tuple("abcdefghij")
        self.assertEqual(fewest_to(pile, pile[::-1]), list("bcdefghij"))
        self.assertEqual(fewest_to((), ()), [])


class Kinds(unittest.TestCase):
    def test_the_kinds_of_what_is_told(self):
        pile = ("b", "a", "c")
        self.assertIs(type(readings_by(pile, [1])), list)
        told = undone(pile, [1])
        self.assertEqual([type(told), type(told[0]), type(told[1])], [tuple, tuple, list])
        piles = piles_for(pile, ["a"], [1])
        self.assertIs(type(piles), list)
        self.assertTrue(all(type(order) is tuple for order in piles))
        self.assertIs(type(fewest_to(pile, ("a", "b", "c"))), list)
        self.assertIs(type(fewest_to(pile, pile)), list)

    def test_by_place_and_by_name(self):
        pile, other, readings, numbers = ("b", "a", "c"), ("c", "b", "a"), ["a", "c"], [1, 2]
        self.assertEqual(readings_by(numbers=numbers, pile=pile), readings_by(pile, numbers))
        self.assertEqual(undone(numbers=numbers, pile=pile), undone(pile, numbers))
        self.assertEqual(
            piles_for(numbers=numbers, readings=readings, pile=pile), piles_for(pile, readings, numbers))
        self.assertEqual(fewest_to(other=other, pile=pile), fewest_to(pile, other))


if __name__ == "__main__":
    unittest.main()
