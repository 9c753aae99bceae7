"""Points 6 and 3: wants, and days that are done again and again."""

import unittest
from itertools import permutations

from laidontop.days import are_wants, day_passings, each_day, far_lifted, far_pile
from laidontop.piles import behind, lifted, passings
from tests.helpers import ANYTHING, NO_NAMES, days_of, wants_up_to, worked, worked_day

FAR = 10 ** 18


class AreWants(unittest.TestCase):
    def test_wants(self):
        for wants in wants_up_to(7):
            self.assertIs(are_wants(wants), True, wants)

    def test_edges_of_wants(self):
        self.assertIs(are_wants((("a", 1),)), True)
        self.assertIs(are_wants((("abcdefgh", 4),)), True)
        self.assertIs(are_wants((("a", 4), ("b", 3))), True)
        self.assertIs(are_wants((("a", 3), ("aa", 1), ("ab", 1), ("b", 1), ("ba", 1))), True)

    def test_no_pair_and_six_books(self):
        self.assertIs(are_wants(()), False)
        self.assertIs(are_wants(tuple((book, 1) for book in "abcdef")), False)

    def test_a_book_twice(self):
        self.assertIs(are_wants((("a", 1), ("a", 1))), False)
        self.assertIs(are_wants((("a", 1), ("a", 2))), False)
        self.assertIs(are_wants((("a", 1), ("b", 1), ("b", 2))), False)

    def test_not_in_order(self):
        self.assertIs(are_wants((("b", 1), ("a", 1))), False)
        self.assertIs(are_wants((("a", 1), ("c", 1), ("b", 1))), False)
        self.assertIs(are_wants((("b", 1), ("a", 2), ("b", 2))), False)
        self.assertIs(are_wants((("aa", 1), ("a", 1))), False)

    def test_how_many_want_a_book(self):
        for many in [0, 5, 6, -1, -4, 10 ** 39, True, False, None, "1", 1.0, [1], (1,), [], ()]:
            for wants in [(("a", many),), (("a", 1), ("b", many)), (("a", many), ("b", 1))]:
                self.assertIs(are_wants(wants), False, repr(wants))

    def test_eight_readers_in_all(self):
        self.assertIs(are_wants((("a", 4), ("b", 4))), False)
        self.assertIs(are_wants((("a", 2), ("b", 2), ("c", 2), ("d", 1), ("e", 1))), False)
        self.assertIs(are_wants((("a", 4), ("b", 4), ("c", 4))), False)

    def test_pairs_of_another_make(self):
        for pair in [(), ("b",), ("b", 1, 1), ("b", 1, "c"), ["b", 1], (1, "b"), "b", "bb", 1, None, True]:
            for wants in [(pair,), (pair, ("c", 1)), (("a", 1), pair)]:
                self.assertIs(are_wants(wants), False, repr(wants))

    def test_a_list_in_place_of_the_tuple(self):
        self.assertIs(are_wants([("a", 1)]), False)
        self.assertIs(are_wants([("a", 1), ("b", 2)]), False)
        self.assertIs(are_wants(("a", 1)), False)

    def test_a_book_that_is_no_name(self):
        for book in NO_NAMES:
            for wants in [((book, 1),), ((book, 1), ("zz", 1)), (("a", 1), (book, 1))]:
                self.assertIs(are_wants(wants), False, repr(wants))

    def test_of_anything(self):
        for thing in ANYTHING:
            self.assertIs(are_wants(thing), False, repr(thing))


class Far(unittest.TestCase):
    cases = [
        (("a",), ("a",)),
        (("a",), ("a", "a", "a", "a")),
        (("x", "a"), ("a",)),
        (("a", "b", "c"), ("c", "a", "c", "b")),
        (("x", "c", "y", "a", "z", "b"), ("b", "b", "a", "c", "a", "b", "c")),
        (("v", "e", "w", "d", "a", "c", "b"), ("e", "a", "d", "b", "c", "a", "e")),
    ]

    def test_worked_by_hand(self):
        pile, day = ("x", "a", "b"), ("b", "a")
        self.assertEqual(far_pile(pile, day, 0), ("x", "a", "b"))
        self.assertEqual(far_lifted(pile, day, 0), 0)
        self.assertEqual(far_pile(pile, day, 1), ("a", "b", "x"))
        self.assertEqual(far_lifted(pile, day, 1), 4)
        self.assertEqual(far_pile(pile, day, 2), ("a", "b", "x"))
        self.assertEqual(far_lifted(pile, day, 2), 6)
        self.assertEqual(far_pile(pile, day, FAR), ("a", "b", "x"))
        self.assertEqual(far_lifted(pile, day, FAR), 2000000000000000002)

    def test_few_days_are_the_day_read_so_often(self):
        for pile, day in self.cases:
            for days in range(9):
                pile_behind, lifts, _ = worked(pile, list(day) * days)
                self.assertEqual(far_pile(pile, day, days), pile_behind)
                self.assertEqual(far_lifted(pile, day, days), sum(lifts))

    def test_every_pile_and_day_of_small_wants(self):
        for wants in wants_up_to(4, 3):
            books = tuple(book for book, _ in wants)
            for pile in permutations(books + ("x",)):
                for day in days_of(wants):
                    for days in range(4):
                        pile_behind, lifts, _ = worked(pile, list(day) * days)
                        self.assertEqual(far_pile(pile, day, days), pile_behind)
                        self.assertEqual(far_lifted(pile, day, days), sum(lifts))

    def test_farthest_days(self):
        for pile, day in self.cases:
            second = sum(lifted(behind(pile, list(day)), list(day)))
            first = sum(lifted(pile, list(day)))
            self.assertEqual(far_pile(pile, day, FAR), behind(pile, list(day)))
            self.assertEqual(far_lifted(pile, day, FAR), first + second * (FAR - 1))
            self.assertEqual(far_lifted(pile, day, FAR) - far_lifted(pile, day, FAR - 1), second)

    def test_books_that_the_day_does_not_name_sink_below(self):
        pile, day = ("x", "c", "y", "a", "z", "b"), ("b", "c", "a", "c")
        for days in (1, 2, FAR):
            self.assertEqual(far_pile(pile, day, days), ("c", "a", "b", "x", "y", "z"))

    def test_somewhat_beyond_the_limits(self):
        pile, day = ("x", "a", "b"), ("b", "a")
        self.assertEqual(far_pile(pile, day, FAR * 10), ("a", "b", "x"))
        self.assertEqual(far_lifted(pile, day, FAR * 10), 2 * FAR * 10 + 2)
        self.assertEqual(far_pile(pile, (), FAR), pile)
        self.assertEqual(far_lifted(pile, (), FAR), 0)
        self.assertEqual(far_pile(pile, day, -1), pile)
        self.assertEqual(far_lifted(pile, day, -1), 0)


class EachDay(unittest.TestCase):
    def test_worked_by_hand(self):
        two = (("a", 2), ("b", 2))
        self.assertEqual(each_day(two, ("a", "b", "a", "b")), 4)
        self.assertEqual(day_passings(two, ("a", "b", "a", "b")), [("a", "b", 4)])
        self.assertEqual(each_day(two, ("a", "a", "b", "b")), 2)
        self.assertEqual(each_day(two, ("a", "b", "b", "a")), 2)
        self.assertEqual(day_passings(two, ("b", "a", "a", "b")), [("a", "b", 2)])
        three = (("a", 1), ("b", 1), ("c", 1))
        for day in days_of(three):
            self.assertEqual(each_day(three, day), 6)
            self.assertEqual(day_passings(three, day), [("a", "b", 2), ("a", "c", 2), ("b", "c", 2)])

    def test_three_books_unlike_often_wanted(self):
        wants, day = (("a", 3), ("b", 2), ("c", 1)), ("a", "b", "a", "c", "b", "a")
        # Behind the first day the pile is a b c: then 0, 1, 1, 2, 2, 2 books are lifted.
        self.assertEqual(each_day(wants, day), 8)
        self.assertEqual(day_passings(wants, day), [("a", "b", 4), ("a", "c", 2), ("b", "c", 2)])

    def test_one_book_alone(self):
        self.assertEqual(each_day((("a", 1),), ("a",)), 0)
        self.assertEqual(day_passings((("a", 1),), ("a",)), [])

    def test_one_book_wanted_four_times(self):
        self.assertEqual(each_day((("a", 4),), ("a",) * 4), 0)
        self.assertEqual(day_passings((("a", 4),), ("a",) * 4), [])
        wants = (("a", 4), ("b", 1))
        self.assertEqual(each_day(wants, ("a", "a", "b", "a", "a")), 2)
        self.assertEqual(day_passings(wants, ("a", "a", "b", "a", "a")), [("a", "b", 2)])

    def test_against_the_second_day_worked(self):
        for wants in wants_up_to(6, 4):
            for day in days_of(wants):
                self.assertEqual((each_day(wants, day), day_passings(wants, day)), worked_day(wants, day))

    def test_the_kinds_of_what_is_told(self):
        wants, day = (("a", 1), ("b", 1)), ("b", "a")
        self.assertIs(type(far_pile(("a", "b"), day, 0)), tuple)
        self.assertIs(type(far_pile(("a", "b"), day, 3)), tuple)
        self.assertIs(type(far_lifted(("a", "b"), day, 0)), int)
        self.assertIs(type(far_lifted(("a", "b"), day, 3)), int)
        self.assertIs(type(each_day(wants, day)), int)
        self.assertIs(type(day_passings(wants, day)), list)
        self.assertIs(type(day_passings(wants, day)[0]), tuple)

    def test_somewhat_beyond_the_limits(self):
        wants = tuple((book, 2) for book in "abcdef")
        self.assertEqual(each_day(wants, tuple("abcdef") * 2), 60)
        self.assertEqual(len(day_passings(wants, tuple("abcdef") * 2)), 15)
        self.assertEqual(each_day((), ()), 0)
        self.assertEqual(day_passings((), ()), [])


class ThePromise(unittest.TestCase):
    def test_each_day_lifts_as_many_from_every_order_of_the_pile(self):
        for wants in wants_up_to(5, 3):
            books = tuple(book for book, _ in wants)
            for day in days_of(wants):
                told = each_day(wants, day)
                for pile in permutations(books + ("m",)):
                    lifts = lifted(pile, list(day) * 4)
                    cuts = [sum(lifts[k:k + len(day)]) for k in range(len(day), len(lifts), len(day))]
                    self.assertEqual(cuts, [told] * 3)
                    gained = far_lifted(pile, day, 3) - far_lifted(pile, day, 2)
                    self.assertEqual(gained, told)

    def test_five_books_in_every_order(self):
        wants = (("a", 2), ("b", 1), ("c", 1), ("d", 2), ("e", 1))
        for day in days_of(wants)[::97]:
            told = each_day(wants, day)
            for pile in permutations("abcde"):
                self.assertEqual(far_lifted(pile, day, 2) - far_lifted(pile, day, 1), told)

    def test_as_many_as_the_passings(self):
        for wants in wants_up_to(7):
            for day in days_of(wants)[::7]:
                told = day_passings(wants, day)
                self.assertEqual(each_day(wants, day), sum(number for _, _, number in told))

    def test_at_least_twice_and_at_most_twice_the_less_wanted(self):
        for wants in wants_up_to(7):
            many = dict(wants)
            pairs = [(one, other) for one in sorted(many) for other in sorted(many) if one < other]
            for day in days_of(wants)[::7]:
                told = day_passings(wants, day)
                self.assertEqual([(one, other) for one, other, _ in told], pairs)
                for one, other, number in told:
                    self.assertTrue(2 <= number <= 2 * min(many[one], many[other]))

    def test_backward_and_begun_elsewhere(self):
        for wants in wants_up_to(7):
            for day in days_of(wants)[::11]:
                told, pairs = each_day(wants, day), day_passings(wants, day)
                self.assertEqual(each_day(wants, day[::-1]), told)
                self.assertEqual(day_passings(wants, day[::-1]), pairs)
                for cut in range(1, len(day)):
                    self.assertEqual(each_day(wants, day[cut:] + day[:cut]), told)
                    self.assertEqual(day_passings(wants, day[cut:] + day[:cut]), pairs)

    def test_passings_are_the_same_with_other_books_on_the_pile(self):
        wants, day = (("b", 2), ("d", 1), ("e", 2)), ("b", "e", "d", "b", "e")
        for pile in permutations(("a", "b", "c", "d", "e")):
            settled = far_pile(pile, day, 1)
            told = [row for row in passings(settled, list(day)) if row[0] in "bde" and row[1] in "bde"]
            self.assertEqual(told, day_passings(wants, day))


if __name__ == "__main__":
    unittest.main()
