"""Point 7: the most and the least that days of wants lift."""

import unittest

from laidontop.bounds import amounts, least, least_day, most, most_day, most_passings
from laidontop.days import day_passings, each_day
from tests.helpers import days_of, wants_up_to, worked_day


def all_lifted(wants):
    """What each day of the wants lifts, worked book by book."""
    return [worked_day(wants, day)[0] for day in days_of(wants)]


class WorkedByHand(unittest.TestCase):
    def check(self, wants, fewest, greatest, pairs, numbers):
        self.assertEqual(least(wants), fewest)
        self.assertEqual(most(wants), greatest)
        self.assertEqual(most_passings(wants), pairs)
        self.assertEqual(amounts(wants), numbers)
        self.assertEqual(each_day(wants, least_day(wants)), fewest)
        self.assertEqual(each_day(wants, most_day(wants)), greatest)

    def test_one_book_alone(self):
        for many in range(1, 5):
            wants = (("a", many),)
            self.check(wants, 0, 0, [], [0])
            self.assertEqual(most_day(wants), ("a",) * many)
            self.assertEqual(least_day(wants), ("a",) * many)

    def test_two_books(self):
        self.check((("a", 1), ("b", 1)), 2, 2, [("a", "b", 2)], [2])
        self.check((("a", 4), ("b", 1)), 2, 2, [("a", "b", 2)], [2])
        self.check((("a", 2), ("b", 2)), 2, 4, [("a", "b", 4)], [2, 4])
        self.check((("a", 2), ("b", 4)), 2, 4, [("a", "b", 4)], [2, 4])
        self.check((("a", 4), ("b", 3)), 2, 6, [("a", "b", 6)], [2, 4, 6])

    def test_three_books(self):
        ones = [("a", "b", 2), ("a", "c", 2), ("b", "c", 2)]
        self.check((("a", 1), ("b", 1), ("c", 1)), 6, 6, ones, [6])
        self.check((("a", 4), ("b", 1), ("c", 1)), 6, 6, ones, [6])
        self.check((("a", 3), ("b", 2), ("c", 1)), 6, 8, [("a", "b", 4), ("a", "c", 2), ("b", "c", 2)], [6, 8])
        twos = [("a", "b", 4), ("a", "c", 4), ("b", "c", 4)]
        self.check((("a", 2), ("b", 2), ("c", 2)), 6, 12, twos, [6, 8, 10, 12])
        self.check((("a", 2), ("b", 3), ("c", 2)), 6, 12, twos, [6, 8, 10, 12])

    def test_five_books(self):
        wants = (("a", 2), ("b", 1), ("c", 1), ("d", 2), ("e", 1))
        pairs = [
            ("a", "b", 2), ("a", "c", 2), ("a", "d", 4), ("a", "e", 2), ("b", "c", 2),
            ("b", "d", 2), ("b", "e", 2), ("c", "d", 2), ("c", "e", 2), ("d", "e", 2)]
        self.check(wants, 20, 22, pairs, [20, 22])

    def test_long_names(self):
        wants = (("ab", 2), ("abcdefgh", 1), ("b", 3))
        pairs = [("ab", "abcdefgh", 2), ("ab", "b", 4), ("abcdefgh", "b", 2)]
        self.check(wants, 6, 8, pairs, [6, 8])


class AllDaysOfAllWants(unittest.TestCase):
    def test_the_most_the_least_and_all_amounts(self):
        for wants in wants_up_to(7):
            lifts = all_lifted(wants)
            self.assertEqual(most(wants), max(lifts), wants)
            self.assertEqual(least(wants), min(lifts), wants)
            self.assertEqual(amounts(wants), sorted(set(lifts)), wants)

    def test_the_days_told_are_days_and_lift_as_told(self):
        for wants in wants_up_to(7):
            names = sorted(book for book, many in wants for _ in range(many))
            for day, number in [(most_day(wants), most(wants)), (least_day(wants), least(wants))]:
                self.assertEqual(sorted(day), names)
                self.assertEqual(worked_day(wants, day)[0], number)
                self.assertEqual(each_day(wants, day), number)

    def test_most_passings_of_any_two(self):
        for wants in wants_up_to(7):
            each = [worked_day(wants, day)[1] for day in days_of(wants)]
            self.assertEqual(most_passings(wants), [max(column) for column in zip(*each)], wants)

    def test_all_at_once_in_the_days_told(self):
        for wants in wants_up_to(7):
            many = dict(wants)
            self.assertEqual(worked_day(wants, most_day(wants))[1], most_passings(wants))
            for one, other, number in day_passings(wants, most_day(wants)):
                self.assertEqual(number, 2 * min(many[one], many[other]))
            for _, _, number in worked_day(wants, least_day(wants))[1]:
                self.assertEqual(number, 2)

    def test_the_most_is_that_of_all_passings(self):
        for wants in wants_up_to(7):
            self.assertEqual(most(wants), sum(number for _, _, number in most_passings(wants)))
            self.assertEqual(least(wants), len(wants) * (len(wants) - 1))

    def test_names_in_another_order_than_the_numbers(self):
        for wants in wants_up_to(6):
            names = ("zz", "y", "m", "ma", "a")[:len(wants)]
            renamed = tuple(sorted(zip(names, [many for _, many in wants])))
            lifts = all_lifted(renamed)
            self.assertEqual((least(renamed), most(renamed)), (min(lifts), max(lifts)))
            self.assertEqual(amounts(renamed), sorted(set(lifts)))
            self.assertEqual(most_passings(renamed), sorted(most_passings(renamed)))
            self.assertTrue(all(one < other for one, other, _ in most_passings(renamed)))


class Kinds(unittest.TestCase):
    def test_the_kinds_of_what_is_told(self):
        for wants in [(("a", 1),), (("a", 2), ("b", 2), ("c", 3))]:
            self.assertIs(type(most(wants)), int)
            self.assertIs(type(least(wants)), int)
            self.assertIs(type(most_passings(wants)), list)
            self.assertIs(type(amounts(wants)), list)
            self.assertIs(type(most_day(wants)), tuple)
            self.assertIs(type(least_day(wants)), tuple)
            self.assertTrue(all(type(row) is tuple for row in most_passings(wants)))
            self.assertTrue(all(type(number) is int for number in amounts(wants)))

    def test_by_place_and_by_name(self):
        wants = (("a", 2), ("b", 3), ("c", 1))
        for ask in (most, least, most_passings, amounts, most_day, least_day):
            self.assertEqual(ask(wants), ask(wants=wants), ask.__name__)

    def test_somewhat_beyond_the_limits(self):
        wants = tuple((book, at % 5 + 3) for at, book in enumerate("abcdefgh"))
        many = dict(wants)
        pairs = [(one, other, 2 * min(many[one], many[other])) for one in many for other in many if one < other]
        self.assertEqual(most_passings(wants), pairs)
        self.assertEqual(most(wants), sum(number for _, _, number in pairs))
        self.assertEqual(least(wants), 56)
        self.assertEqual(amounts(wants), list(range(56, most(wants) + 1, 2)))
        self.assertEqual(each_day(wants, most_day(wants)), most(wants))
        self.assertEqual(each_day(wants, least_day(wants)), 56)

    def test_no_books_and_books_that_nobody_wants(self):
        self.assertEqual((most(()), least(()), most_passings(()), amounts(())), (0, 0, [], [0]))
        self.assertEqual((most_day(()), least_day(())), ((), ()))
        wants = (("a", 2), ("b", 0), ("c", 2))
        self.assertEqual(amounts(wants), [2, 4])
        self.assertEqual(most_passings(wants), [("a", "b", 0), ("a", "c", 4), ("b", "c", 0)])


if __name__ == "__main__":
    unittest.main()
