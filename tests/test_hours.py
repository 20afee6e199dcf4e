"""Point 13, the first to go, and what point 31 says of it."""

import itertools
import unittest
from fractions import Fraction

from frothwane.hours import first_to_go
from tests.helpers import Dice, assert_plain


def plain_first(rows):
    """The first to go by the words of point 13, by Python's own fractions."""
    found = []
    for name, (num, den), sides in rows:
        if num == 0:
            found.append((Fraction(0), name))
        elif sides < 6:
            found.append((Fraction(num, den) / (6 - sides), name))
    if not found:
        return None
    hours, name = min(found)
    return ((hours.numerator, hours.denominator), name)


class FirstToGoTest(unittest.TestCase):
    def assert_first(self, wanted, rows):
        """In whatever order the rows are listed."""
        for listed in itertools.permutations(rows) if len(rows) < 6 else [rows, rows[::-1]]:
            told = first_to_go(list(listed))
            self.assertEqual(wanted, told)
            if wanted is None:
                self.assertIsNone(told)
            else:
                self.assertIs(type(told), tuple)
                self.assertIs(type(told[0]), tuple)
                assert_plain(self, told)

    def test_no_rows(self):
        self.assertIsNone(first_to_go([]))

    def test_one_row(self):
        self.assert_first(((10, 1), 4), [(4, (10, 1), 5)])
        self.assert_first(((7, 2), 0), [(0, (7, 2), 5)])
        self.assert_first(((7, 3), 1), [(1, (7, 1), 3)])

    def test_each_number_of_sides(self):
        wanted = {1: (7, 5), 2: (7, 4), 3: (7, 3), 4: (7, 2), 5: (7, 1)}
        for sides in wanted:
            self.assert_first((wanted[sides], 9), [(9, (7, 1), sides)])

    def test_hours_in_lowest_terms(self):
        rows = [((4, 1), 4, (2, 1)), ((10, 1), 1, (2, 1)), ((3, 2), 3, (1, 2)), ((10, 3), 1, (2, 3)), ((6, 1), 2, (3, 2)),
                ((60, 1), 2, (15, 1)), ((12, 7), 2, (3, 7)), ((5, 7), 1, (1, 7)), ((9, 10), 3, (3, 10)),
                ((1000000, 1), 2, (250000, 1)), ((2, 3), 4, (1, 3))]
        for gas, sides, wanted in rows:
            self.assert_first((wanted, 3), [(3, gas, sides)])

    def test_six_sides_and_more(self):
        for sides in (6, 7, 8, 12, 60):
            self.assert_first(None, [(0, (1, 1), sides)])
            self.assert_first(((100, 1), 5), [(0, (1, 1), sides), (5, (100, 1), 5)])
        self.assert_first(None, [(0, (1, 60), 6), (1, (2, 1), 7), (2, (3, 1), 9)])

    def test_without_gas(self):
        for sides in (1, 2, 3, 4, 5, 6, 7, 20):
            self.assert_first(((0, 1), 2), [(2, (0, 1), sides)])
            self.assert_first(((0, 1), 8), [(2, (1, 60), 1), (8, (0, 1), sides)])

    def test_several_without_gas(self):
        self.assert_first(((0, 1), 3), [(7, (0, 1), 1), (3, (0, 1), 9), (5, (0, 1), 6), (1, (1, 1), 1)])
        self.assert_first(((0, 1), 1), [(1, (0, 1), 6), (2, (0, 1), 5)])

    def test_the_least_hours_not_the_least_gas_or_the_fewest_sides(self):
        self.assert_first(((2, 1), 9), [(1, (3, 1), 5), (9, (10, 1), 1)])
        self.assert_first(((3, 1), 9), [(1, (16, 1), 1), (9, (3, 1), 5)])
        self.assert_first(((1, 3), 2), [(1, (1, 2), 5), (2, (1, 3), 5)])
        self.assert_first(((9, 10), 2), [(1, (10, 11), 5), (2, (9, 10), 5)])

    def test_like_hours_and_unlike_names(self):
        self.assert_first(((2, 1), 3), [(8, (2, 1), 5), (3, (10, 1), 1), (5, (4, 1), 4)])
        self.assert_first(((2, 1), 0), [(0, (6, 1), 3), (1, (2, 1), 5), (2, (8, 1), 2)])
        self.assert_first(((1, 2), 9), [(10, (1, 2), 5), (9, (3, 2), 3), (100, (1, 1), 4)])

    def test_like_hours_are_not_the_least(self):
        self.assert_first(((1, 1), 7), [(1, (2, 1), 5), (2, (4, 1), 4), (7, (1, 1), 5)])

    def test_names_far_apart(self):
        self.assert_first(((1, 1), 10 ** 11), [(10 ** 12, (1, 1), 5), (10 ** 11, (2, 1), 4)])

    def test_long_numbers(self):
        long = 10 ** 58 + 1
        self.assert_first(((long, long - 2), 2), [(1, (long, long - 4), 5), (2, (long, long - 2), 5)])
        self.assert_first(((5 ** 20, 2 ** 30), 1), [(1, (5 ** 21, 2 ** 30), 1)])

    def test_sixty_rows_and_more(self):
        for many in (60, 75):
            rows = [(name, (3 * name + 2, 7), 1 + name % 7) for name in range(1, many + 1)]
            self.assert_first(plain_first(rows), rows)
            rows.append((many + 1, (1, 1000), 5))
            self.assert_first(((1, 1000), many + 1), rows)

    def test_against_fractions(self):
        dice = Dice(3)
        for turn in range(2000):
            rows = []
            for name in range(dice.roll(9)):
                gas = Fraction(dice.roll(12), 1 + dice.roll(5))
                rows.append((name * 3 % 17, (gas.numerator, gas.denominator), 1 + dice.roll(8)))
            self.assertEqual(plain_first(rows), first_to_go(rows), rows)

    def test_by_name(self):
        self.assertEqual(((1, 1), 2), first_to_go(rows=[(2, (1, 1), 5)]))


class HandedInTest(unittest.TestCase):
    def test_the_list_is_as_it_was(self):
        rows = [(8, (2, 1), 5), (3, (10, 1), 1), (5, (0, 1), 7), (1, (4, 1), 6)]
        before = list(rows)
        self.assertEqual(((0, 1), 5), first_to_go(rows))
        self.assertEqual(before, rows)

    def test_the_list_may_be_changed_behind_the_call(self):
        rows = [(8, (2, 1), 5), (3, (10, 1), 4)]
        told = first_to_go(rows)
        rows.pop(0)
        self.assertEqual(((2, 1), 8), told)
        self.assertEqual(((5, 1), 3), first_to_go(rows))
        rows.clear()
        self.assertIsNone(first_to_go(rows))

    def test_told_are_plain_numbers(self):
        for rows in ([(0, (0, 1), 6)], [(0, (1, 1), 5)], [(1, (1, 1), 5), (0, (5, 1), 1)]):
            assert_plain(self, first_to_go(rows))


if __name__ == "__main__":
    unittest.main()
