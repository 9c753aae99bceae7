"""Points 1 and 3: what holds over the whole program, small wants by all their days and small piles by all readings."""

import unittest
from itertools import permutations, product

from laidontop.bounds import amounts, least, least_day, most, most_day, most_passings
from laidontop.codes import fewest_to, piles_for, readings_by, undone
from laidontop.days import day_passings, each_day, far_lifted, far_pile
from laidontop.piles import behind, is_pile, lifted, passings
from tests.helpers import days_of, rows, wants_up_to


class SmallWantsByAllTheirDays(unittest.TestCase):
    def test_no_day_lifts_more_or_less_or_another_number(self):
        for wants in wants_up_to(7):
            low, high, numbers = least(wants), most(wants), set(amounts(wants))
            for day in days_of(wants):
                number = each_day(wants, day)
                self.assertTrue(low <= number <= high)
                self.assertIn(number, numbers)

    def test_no_two_pass_one_another_more_often_or_more_seldom(self):
        for wants in wants_up_to(7):
            at_most = most_passings(wants)
            at_least = day_passings(wants, least_day(wants))
            self.assertEqual(day_passings(wants, most_day(wants)), at_most)
            for day in days_of(wants):
                told = day_passings(wants, day)
                for (_, _, low), (_, _, number), (_, _, high) in zip(at_least, told, at_most):
                    self.assertTrue(2 == low <= number <= high)

    def test_each_amount_is_that_of_a_day(self):
        for wants in wants_up_to(7):
            self.assertEqual({each_day(wants, day) for day in days_of(wants)}, set(amounts(wants)))

    def test_the_most_and_the_least_hold_on_every_pile(self):
        for wants in wants_up_to(5, 4):
            books = tuple(book for book, _ in wants)
            for day, number in [(most_day(wants), most(wants)), (least_day(wants), least(wants))]:
                for pile in permutations(books + ("m",)):
                    for days in (1, 2, 10 ** 18):
                        gained = far_lifted(pile, day, days + 1) - far_lifted(pile, day, days)
                        self.assertEqual(gained, number)

    def test_backward_a_day_lifts_as_many(self):
        for wants in wants_up_to(7):
            for day in (most_day(wants), least_day(wants)):
                self.assertEqual(each_day(wants, day[::-1]), each_day(wants, day))
                self.assertEqual(day_passings(wants, day[::-1]), day_passings(wants, day))
        for wants in wants_up_to(6):
            for day in days_of(wants):
                self.assertEqual(each_day(wants, day[::-1]), each_day(wants, day))


class SmallPilesByAllReadings(unittest.TestCase):
    def test_numbers_and_either_pile_tell_the_readings(self):
        for many in range(1, 5):
            for pile in permutations("abcd"[:many]):
                for readings in rows(pile, 4):
                    numbers = lifted(pile, readings)
                    self.assertEqual(readings_by(pile, numbers), readings)
                    self.assertEqual(undone(behind(pile, readings), numbers), (pile, readings))

    def test_each_row_of_numbers_is_that_of_just_one_row_of_readings(self):
        for many in range(1, 5):
            for pile in permutations("abcd"[:many]):
                for length in range(5):
                    made = [tuple(lifted(pile, list(row))) for row in product(pile, repeat=length)]
                    self.assertEqual(sorted(made), list(product(range(many), repeat=length)))

    def test_the_pile_behind_and_numbers_leave_one_pile_ahead(self):
        for many in range(1, 4):
            for last in permutations("abc"[:many]):
                for length in range(4):
                    for row in product(range(many), repeat=length):
                        numbers = list(row)
                        ahead = [
                            pile for pile in permutations(last) if behind(pile, readings_by(pile, numbers)) == last]
                        self.assertEqual(ahead, [undone(last, numbers)[0]])

    def test_a_pile_is_among_those_that_its_numbers_come_from(self):
        for pile in permutations("abcd"):
            for readings in rows(pile, 3):
                told = piles_for(("d", "b", "a", "c"), readings, lifted(pile, readings))
                self.assertIn(pile, told)
                self.assertEqual(told, sorted(set(told)))

    def test_all_lifted_are_all_passings(self):
        for pile in permutations("abcd"):
            for readings in rows(pile, 4):
                told = passings(pile, readings)
                self.assertEqual(sum(lifted(pile, readings)), sum(number for _, _, number in told))


class SmallPilesByAllOtherPiles(unittest.TestCase):
    def test_no_fewer_readings_lead_there_and_no_others_as_few(self):
        for many in range(1, 5):
            for pile in permutations("abcd"[:many]):
                leading = {}
                # All readings up to the longest that is needed: all books but one.
                for row in rows(pile, many - 1):
                    leading.setdefault(behind(pile, row), []).append(row)
                self.assertEqual(sorted(leading), sorted(permutations(pile)))
                for other, found in leading.items():
                    told = fewest_to(pile, other)
                    self.assertEqual([row for row in found if len(row) <= len(told)], [told])

    def test_the_way_there_is_told_by_its_numbers_too(self):
        for many in range(1, 6):
            pile = tuple("abcde"[:many])
            for other in permutations(pile):
                way = fewest_to(pile, other)
                numbers = lifted(pile, way)
                self.assertEqual(readings_by(pile, numbers), way)
                self.assertEqual(undone(other, numbers), (pile, way))
                self.assertIn(pile, piles_for(other, way, numbers))

    def test_days_done_again_need_no_more_readings(self):
        for wants in wants_up_to(5, 3):
            for pile in permutations([book for book, _ in wants] + ["m"]):
                for day in (most_day(wants), least_day(wants)):
                    far = far_pile(pile, day, 10 ** 18)
                    self.assertIs(is_pile(far), True)
                    self.assertEqual(behind(pile, fewest_to(pile, far)), far)
                    self.assertLessEqual(len(fewest_to(pile, far)), len(wants))


if __name__ == "__main__":
    unittest.main()
