"""Point 2, Amounts, and what point 31 says of them."""

import unittest
from fractions import Fraction
from math import gcd

from frothwane.amounts import amount, below, minus, plus, shown_amount, times
from tests.helpers import assert_plain

LONG = 10 ** 60 - 1
# Two long numbers that share no divisor, and one that both may be multiplied by.
LONG_NUM = 10 ** 40 + 1
LONG_DEN = 10 ** 40
LONG_PART = 3 ** 40

SOME = [
    (0, 1), (1, 1), (-1, 1), (1, 2), (-1, 2), (1, 3), (2, 3), (-2, 3), (5, 6), (-5, 6), (7, 2), (-7, 2),
    (3, 1), (-3, 1), (1, 60), (59, 60), (10 ** 6, 1), (-10 ** 6, 7), (LONG, 1), (-LONG, 1), (1, LONG),
    (LONG_NUM, LONG_DEN), (-LONG_NUM, LONG_DEN), (LONG_DEN, LONG_NUM), (LONG_DEN - 1, LONG_DEN),
]


class AmountsCase(unittest.TestCase):
    def assert_amount(self, wanted, told):
        """wanted is a Fraction or a tuple that was written out."""
        self.assertIs(type(told), tuple)
        self.assertEqual(2, len(told))
        assert_plain(self, told)
        num, den = told
        self.assertGreaterEqual(den, 1)
        self.assertEqual(1, gcd(num, den))
        if type(wanted) is Fraction:
            self.assertEqual(wanted.numerator * den, num * wanted.denominator)
        else:
            self.assertEqual(wanted, told)


class AmountTest(AmountsCase):
    def test_written_out(self):
        rows = [
            (7, 2, (7, 2)), (-7, 2, (-7, 2)), (7, -2, (-7, 2)), (-7, -2, (7, 2)),
            (6, 4, (3, 2)), (-6, 4, (-3, 2)), (6, -4, (-3, 2)), (-6, -4, (3, 2)),
            (6, 3, (2, 1)), (-6, 3, (-2, 1)), (6, -3, (-2, 1)), (-6, -3, (2, 1)),
            (3, 6, (1, 2)), (3, -6, (-1, 2)), (-3, 6, (-1, 2)), (-3, -6, (1, 2)),
            (1, 1, (1, 1)), (1, -1, (-1, 1)), (-1, 1, (-1, 1)), (-1, -1, (1, 1)),
            (4, 4, (1, 1)), (-4, 4, (-1, 1)), (360, 84, (30, 7)), (17, 51, (1, 3)), (30, 105, (2, 7)),
        ]
        for num, den, wanted in rows:
            with self.subTest((num, den)):
                self.assert_amount(wanted, amount(num, den))

    def test_nought(self):
        for den in [1, -1, 2, -2, 60, -60, 10 ** 12, -10 ** 12, LONG, -LONG]:
            with self.subTest(den):
                self.assert_amount((0, 1), amount(0, den))

    def test_small_numbers_of_either_sign(self):
        for num in range(-36, 37):
            for den in range(-36, 37):
                if den != 0:
                    with self.subTest((num, den)):
                        self.assert_amount(Fraction(num, den), amount(num, den))

    def test_sixty_figures(self):
        self.assert_amount((1, 1), amount(LONG, LONG))
        self.assert_amount((-1, 1), amount(LONG, -LONG))
        self.assert_amount((LONG, 1), amount(-LONG, -1))
        self.assert_amount((-1, LONG), amount(1, -LONG))
        self.assert_amount((LONG, LONG - 1), amount(LONG, LONG - 1))
        self.assert_amount((1 - LONG, LONG), amount(LONG - 1, -LONG))
        self.assert_amount((10 ** 19, 3), amount(10 ** 59, 3 * 10 ** 40))

    def test_sixty_figures_with_a_common_divisor(self):
        for sign in (1, -1):
            for second in (1, -1):
                with self.subTest((sign, second)):
                    told = amount(sign * LONG_NUM * LONG_PART, second * LONG_DEN * LONG_PART)
                    self.assert_amount((sign * second * LONG_NUM, LONG_DEN), told)

    def test_many_steps_to_the_divisor(self):
        low, high = 1, 1
        while high < 10 ** 59:
            low, high = high, low + high
        self.assert_amount((low, high), amount(low, high))
        self.assert_amount((-low, high), amount(7 * low, -7 * high))

    def test_by_name(self):
        self.assertEqual((1, 2), amount(den=4, num=2))


class SumsTest(AmountsCase):
    def test_plus_written_out(self):
        rows = [
            ((1, 2), (1, 3), (5, 6)), ((1, 2), (1, 2), (1, 1)), ((1, 6), (1, 3), (1, 2)), ((7, 2), (-7, 2), (0, 1)),
            ((0, 1), (0, 1), (0, 1)), ((0, 1), (-3, 4), (-3, 4)), ((-1, 2), (-1, 6), (-2, 3)), ((3, 1), (4, 1), (7, 1)),
        ]
        for one, second, wanted in rows:
            with self.subTest((one, second)):
                self.assert_amount(wanted, plus(one, second))

    def test_minus_written_out(self):
        rows = [
            ((1, 2), (1, 3), (1, 6)), ((1, 3), (1, 2), (-1, 6)), ((5, 6), (1, 3), (1, 2)), ((7, 2), (7, 2), (0, 1)),
            ((0, 1), (3, 4), (-3, 4)), ((-1, 2), (-1, 6), (-1, 3)), ((3, 1), (4, 1), (-1, 1)), ((0, 1), (0, 1), (0, 1)),
        ]
        for one, second, wanted in rows:
            with self.subTest((one, second)):
                self.assert_amount(wanted, minus(one, second))

    def test_times_written_out(self):
        rows = [
            ((7, 2), 2, (7, 1)), ((7, 2), 3, (21, 2)), ((7, 2), 0, (0, 1)), ((7, 2), -1, (-7, 2)), ((-7, 2), -4, (14, 1)),
            ((5, 6), 4, (10, 3)), ((5, 6), -4, (-10, 3)), ((0, 1), 5, (0, 1)), ((0, 1), -5, (0, 1)), ((-5, 6), 1, (-5, 6)),
            ((0, 1), 0, (0, 1)), ((-5, 6), 0, (0, 1)), ((1, 60), 60, (1, 1)), ((1, 60), -90, (-3, 2)),
        ]
        for one, many, wanted in rows:
            with self.subTest((one, many)):
                self.assert_amount(wanted, times(one, many))

    def test_plus_and_minus_against_the_numbers_multiplied_out(self):
        for one in SOME:
            for second in SOME:
                with self.subTest((one, second)):
                    self.assert_amount(Fraction(*one) + Fraction(*second), plus(one, second))
                    self.assert_amount(Fraction(*one) - Fraction(*second), minus(one, second))

    def test_small_amounts(self):
        small = sorted({(part.numerator, part.denominator) for part in
                        [Fraction(num, den) for num in range(-7, 8) for den in range(1, 8)]})
        for one in small:
            for second in small:
                with self.subTest((one, second)):
                    self.assert_amount(Fraction(*one) + Fraction(*second), plus(one, second))
                    self.assert_amount(Fraction(*one) - Fraction(*second), minus(one, second))

    def test_times_against_the_numbers_multiplied_out(self):
        for one in SOME:
            for many in [0, 1, -1, 2, -2, 3, -3, 6, -6, 60, -60, 10 ** 12, -10 ** 12, LONG, -LONG]:
                with self.subTest((one, many)):
                    self.assert_amount(Fraction(*one) * many, times(one, many))

    def test_by_name(self):
        self.assertEqual((5, 6), plus(other=(1, 3), one=(1, 2)))
        self.assertEqual((1, 6), minus(other=(1, 3), one=(1, 2)))
        self.assertEqual((3, 2), times(many=3, one=(1, 2)))


class BelowTest(unittest.TestCase):
    def test_written_out(self):
        rows = [((1, 3), (1, 2)), ((-1, 2), (-1, 3)), ((-1, 2), (1, 3)), ((-1, 3), (1, 2)), ((0, 1), (1, 60)),
                ((-1, 60), (0, 1)), ((7, 2), (4, 1)), ((3, 1), (7, 2)), ((-4, 1), (-7, 2)), ((-7, 2), (-3, 1)),
                ((2, 3), (5, 6)), ((9, 10), (10, 11)), ((3, 1), (10, 1)), ((1, LONG), (1, LONG - 1)),
                ((LONG - 1, LONG), (1, 1)), ((-1, 1), (1 - LONG, LONG)), ((-LONG, 1), (LONG, 1))]
        for low, high in rows:
            with self.subTest((low, high)):
                self.assertIs(True, below(low, high))
                self.assertIs(False, below(high, low))

    def test_an_amount_and_itself(self):
        for one in SOME:
            with self.subTest(one):
                self.assertIs(False, below(one, tuple(one)))

    def test_each_way(self):
        for one in SOME:
            for second in SOME:
                with self.subTest((one, second)):
                    self.assertIs(Fraction(*one) < Fraction(*second), below(one, second))

    def test_by_name(self):
        self.assertIs(True, below(other=(1, 2), one=(1, 3)))


class ShownAmountTest(unittest.TestCase):
    def test_written_out(self):
        rows = [((7, 2), "7/2"), ((-7, 2), "-7/2"), ((-3, 1), "-3"), ((3, 1), "3"), ((0, 1), "0"), ((1, 1), "1"),
                ((-1, 1), "-1"), ((1, 60), "1/60"), ((-1, 60), "-1/60"), ((1, 10), "1/10"), ((10, 11), "10/11"),
                ((1000000, 1), "1000000"), ((1234567, 1000), "1234567/1000")]
        for one, wanted in rows:
            with self.subTest(wanted):
                told = shown_amount(one)
                self.assertIs(type(told), str)
                self.assertEqual(wanted, told)

    def test_long_numbers(self):
        nines = "9" * 60
        self.assertEqual(nines, shown_amount((LONG, 1)))
        self.assertEqual("-" + nines, shown_amount((-LONG, 1)))
        self.assertEqual("1/" + nines, shown_amount((1, LONG)))
        self.assertEqual("-" + nines + "/1" + "0" * 59, shown_amount((-LONG, 10 ** 59)))

    def test_by_name(self):
        self.assertEqual("7/2", shown_amount(one=(7, 2)))


if __name__ == "__main__":
    unittest.main()
