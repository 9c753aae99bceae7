"""Points 4 and 5: piles, and what readings do to them."""

import unittest
from itertools import permutations

from laidontop.piles import behind, is_pile, lifted, passings
from tests.helpers import ANYTHING, NO_NAMES, rows, sixty, worked

SEVEN = ("g", "c", "e", "a", "f", "b", "d")
PILES = [SEVEN[:many] for many in range(1, 8)]


class IsPile(unittest.TestCase):
    def test_piles_of_one_to_seven_books(self):
        for pile in PILES:
            self.assertIs(is_pile(pile), True, pile)

    def test_names_of_one_and_of_eight_letters(self):
        self.assertIs(is_pile(("a",)), True)
        self.assertIs(is_pile(("z",)), True)
        self.assertIs(is_pile(("abcdefgh",)), True)
        self.assertIs(is_pile(("stuvwxyz", "a", "zz", "aa")), True)

    def test_no_book_and_eight_books(self):
        self.assertIs(is_pile(()), False)
        self.assertIs(is_pile(SEVEN + ("h",)), False)

    def test_a_book_twice(self):
        self.assertIs(is_pile(("a", "a")), False)
        self.assertIs(is_pile(("a", "b", "a")), False)
        self.assertIs(is_pile(SEVEN[:6] + ("g",)), False)

    def test_a_list_in_place_of_the_tuple(self):
        for pile in PILES:
            self.assertIs(is_pile(list(pile)), False)
        self.assertIs(is_pile("abc"), False)

    def test_a_book_that_is_no_name(self):
        for book in NO_NAMES:
            for pile in [(book,), (book, "a"), ("a", book), ("a", book, "b")]:
                self.assertIs(is_pile(pile), False, repr(pile))

    def test_of_anything(self):
        for thing in ANYTHING:
            self.assertIs(is_pile(thing), False, repr(thing))


class Readings(unittest.TestCase):
    def check(self, pile, readings):
        pile_behind, lifts, told = worked(pile, readings)
        self.assertEqual(behind(pile, readings), pile_behind)
        self.assertEqual(lifted(pile, readings), lifts)
        self.assertEqual(passings(pile, readings), told)

    def test_worked_by_hand(self):
        pile = ("a", "b", "c")
        self.assertEqual(behind(pile, ["c"]), ("c", "a", "b"))
        self.assertEqual(lifted(pile, ["c"]), [2])
        self.assertEqual(passings(pile, ["c"]), [("a", "b", 0), ("a", "c", 1), ("b", "c", 1)])
        self.assertEqual(behind(pile, ["c", "a", "b"]), ("b", "a", "c"))
        self.assertEqual(lifted(pile, ["c", "a", "b"]), [2, 1, 2])
        self.assertEqual(passings(pile, ["c", "a", "b"]), [("a", "b", 1), ("a", "c", 2), ("b", "c", 2)])

    def test_books_above_lie_as_they_lay_and_books_below_stay(self):
        pile = ("d", "b", "a", "e", "c")
        self.assertEqual(behind(pile, ["e"]), ("e", "d", "b", "a", "c"))
        self.assertEqual(lifted(pile, ["e"]), [3])
        self.assertEqual(passings(pile, ["e"]), [
            ("a", "b", 0), ("a", "c", 0), ("a", "d", 0), ("a", "e", 1), ("b", "c", 0),
            ("b", "d", 0), ("b", "e", 1), ("c", "d", 0), ("c", "e", 0), ("d", "e", 1)])

    def test_both_ways_count_together(self):
        self.assertEqual(passings(("y", "x"), ["x", "y", "x"]), [("x", "y", 3)])
        self.assertEqual(lifted(("y", "x"), ["x", "y", "x"]), [1, 1, 1])

    def test_one_book_alone(self):
        self.assertEqual(behind(("a",), ["a"] * 60), ("a",))
        self.assertEqual(lifted(("a",), ["a"] * 60), [0] * 60)
        self.assertEqual(passings(("a",), ["a"] * 60), [])

    def test_no_readings(self):
        for pile in PILES:
            self.assertEqual(behind(pile, []), pile)
            self.assertEqual(lifted(pile, []), [])
            self.check(pile, [])
        self.assertEqual(passings(("c", "a", "b"), []), [("a", "b", 0), ("a", "c", 0), ("b", "c", 0)])

    def test_the_top_book(self):
        for pile in PILES:
            self.assertEqual(behind(pile, [pile[0]]), pile)
            self.assertEqual(lifted(pile, [pile[0]]), [0])
            self.assertEqual(passings(pile, [pile[0]]), passings(pile, []))

    def test_the_same_book_twice_running(self):
        for pile in PILES:
            for at, book in enumerate(pile):
                self.assertEqual(lifted(pile, [book, book]), [at, 0])
                self.assertEqual(behind(pile, [book, book]), behind(pile, [book]))
                self.assertEqual(passings(pile, [book, book]), passings(pile, [book]))

    def test_all_short_readings(self):
        for many in range(1, 5):
            for pile in permutations("abcd"[:many]):
                for readings in rows(pile, 4):
                    self.check(pile, readings)

    def test_sixty_readings(self):
        for pile in PILES:
            for many in (5, 17, 59, 60):
                self.check(pile, sixty(SEVEN[:len(pile)])[:many])

    def test_long_names(self):
        self.check(("zebra", "ab", "abcdefgh", "a"), ["a", "abcdefgh", "zebra", "ab", "a"])

    def test_readings_one_behind_the_other(self):
        for pile in PILES:
            readings = sixty(pile)
            for cut in (0, 1, 20, 59, 60):
                first, second = readings[:cut], readings[cut:]
                between = behind(pile, first)
                self.assertEqual(behind(pile, readings), behind(between, second))
                self.assertEqual(lifted(pile, readings), lifted(pile, first) + lifted(between, second))
                both = zip(passings(pile, first), passings(between, second))
                self.assertEqual(passings(pile, readings), [(a, b, k + n) for (a, b, k), (_, _, n) in both])

    def test_all_lifted_are_all_passings(self):
        for pile in PILES:
            for many in range(61):
                readings = sixty(pile)[:many]
                told = passings(pile, readings)
                self.assertEqual(sum(lifted(pile, readings)), sum(number for _, _, number in told))
                self.assertEqual(len(told), len(pile) * (len(pile) - 1) // 2)
                self.assertEqual(told, sorted(told))

    def test_the_kinds_of_what_is_told(self):
        pile, readings = ("b", "a"), ["a", "b"]
        self.assertIs(type(behind(pile, readings)), tuple)
        self.assertIs(type(lifted(pile, readings)), list)
        self.assertIs(type(passings(pile, readings)), list)
        self.assertIs(type(passings(pile, readings)[0]), tuple)

    def test_somewhat_beyond_the_limits(self):
        many = tuple("jihgfedcba")
        self.check(many, sixty(many) * 2)
        self.check(("Book 1", "a" * 20, ""), ["", "Book 1", "a" * 20])
        self.check((), [])


if __name__ == "__main__":
    unittest.main()
