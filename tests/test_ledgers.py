"""Point 18: ledgers, and gas at an hour."""

import unittest
from fractions import Fraction

from frothwane.errors import NoBubble, NoHour
from frothwane.froth import Froth
from tests.frothcase import MANY_ORDERS, FrothCase, done, many_done
from tests.model import asked, ever_named

NEVER = (2, 5, -1, -2, 10 ** 12 - 1, 1 - 10 ** 12)


def row(hour, gas, sides):
    """A row by its hour and its gas as texts, such as 7/2."""
    return (amount_of(hour), amount_of(gas), sides)


def amount_of(text):
    number = Fraction(text)
    return (number.numerator, number.denominator)


class LedgerTest(FrothCase):
    def test_written_out(self):
        froth = many_done()
        wanted = [row("0", "5", 6), row("0", "5", 7), row("1/12", "13/3", 8), row("1/12", "13/3", 9),
                  row("1/6", "55/12", 8), row("13/48", "115/24", 6), row("55/12", "373/24", 9),
                  row("55/12", "373/24", 10)]
        self.assertEqual(wanted, froth.ledger(0))
        wanted = [row("0", "6", 6), row("0", "6", 7), row("0", "6", 8), row("1/6", "19/3", 7), row("55/12", "0", 0)]
        self.assertEqual(wanted, froth.ledger(1))
        self.assertEqual([row("0", "1/2", 3), row("1/6", "0", 0)], froth.ledger(6))
        self.assertEqual([row("1/12", "3/4", 3), row("1/12", "3/4", 2), row("13/48", "0", 0)], froth.ledger(7))
        self.assertEqual([row("55/12", "7/3", 3)], froth.ledger(8))

    def test_one_that_never_was(self):
        froth = Froth(1, 2, [10, 4])
        for name in NEVER:
            self.assert_none(NoBubble, froth.ledger, name)
        froth.deed(("blow", 0, 1, 1))
        self.assertEqual([row("0", "1", 3)], froth.ledger(2))
        self.assert_none(NoBubble, froth.ledger, 3)

    def test_of_one_that_is_no_more(self):
        froth = done(1, 2, [10, 4], [("burst", 0)])
        self.assertEqual([row("0", "4", 6), row("0", "0", 0)], froth.ledger(1))
        # No later deed writes into it.
        froth.deed(("wait", 1, 1))
        froth.deed(("push", min(froth.web()) // 2))
        self.assertEqual([row("0", "4", 6), row("0", "0", 0)], froth.ledger(1))

    def test_a_row_for_each_change_alone(self):
        # Behind each deed just those have a row more whose sides or gas are other ones, or who came, or who went.
        froth = Froth(2, 3, [5, 6, 7, 8, 9, 10])
        for order in MANY_ORDERS:
            if order[0] == "wait":
                froth.deed(order)
                continue
            before = asked(froth)
            froth.deed(order)
            after = asked(froth)
            for name in after["ledgers"]:
                # One that never was and one that is no more have no gas and no sides.
                was, now = [(told["gas"].get(name, (0, 1)), told["sides"].get(name, 0)) for told in (before, after)]
                more = [] if was == now else [(froth.hour(), *now)]
                self.assertEqual(before["ledgers"].get(name, []) + more, after["ledgers"][name])

    def test_deeds_that_take_each_other_back_make_rows(self):
        froth = done(1, 3, [5, 6, 7], [("push", 1), ("pull", 1)])
        self.assertEqual([row("0", "6", 6), row("0", "6", 4), row("0", "6", 6)], froth.ledger(1))

    def test_the_last_row_tells_the_sides(self):
        froth = many_done()
        for name in froth.bubbles():
            self.assertEqual(froth.sides(name), froth.ledger(name)[-1][2])


class GasAtTest(FrothCase):
    def test_written_out(self):
        # Bubble 1 has 4 sides from hour 1 on and is gone at hour 3; bubble 0 has 8 meanwhile, then 6.
        froth = done(1, 2, [10, 4], [("wait", 1, 1), ("push", 1), ("wait", 5, 1)])
        wanted = {"0": "4", "1/2": "4", "1": "4", "4/3": "10/3", "2": "2", "29/10": "1/5", "3": "0"}
        for hour, gas in wanted.items():
            self.assertEqual(amount_of(gas), froth.gas_at(1, amount_of(hour)), hour)
        wanted = {"0": "10", "1": "10", "3/2": "11", "3": "14", "4": "14", "35/6": "14", "6": "14"}
        for hour, gas in wanted.items():
            self.assertEqual(amount_of(gas), froth.gas_at(0, amount_of(hour)), hour)

    def test_hours_that_are_none_of_these(self):
        froth = done(1, 2, [10, 4], [("wait", 1, 1), ("push", 1), ("wait", 5, 1)])
        for hour in ["-1", "-1/60", "181/60", "4", "6", "7", "1000"]:
            self.assert_none(NoHour, froth.gas_at, 1, amount_of(hour))
        for hour in ["-1", "-1/60", "361/60", "7", "1000"]:
            self.assert_none(NoHour, froth.gas_at, 0, amount_of(hour))

    def test_ahead_of_the_coming(self):
        froth = done(1, 2, [10, 4], [("wait", 1, 1), ("blow", 0, 5, 1), ("wait", 1, 2)])
        for hour in ["0", "-1", "59/60"]:
            self.assert_none(NoHour, froth.gas_at, 2, amount_of(hour))
        self.assertEqual((5, 1), froth.gas_at(2, (1, 1)))
        self.assertEqual((17, 4), froth.gas_at(2, (5, 4)))
        self.assertEqual((7, 2), froth.gas_at(2, (3, 2)))
        self.assert_none(NoHour, froth.gas_at, 2, (91, 60))

    def test_of_several_rows_at_one_hour_the_last(self):
        froth = done(1, 2, [10, 4], [("wait", 1, 1), ("blow", 0, 5, 1), ("burst", 6)])
        self.assertEqual([row("1", "5", 3), row("1", "0", 0)], froth.ledger(2))
        self.assertEqual((0, 1), froth.gas_at(2, (1, 1)))
        self.assert_none(NoHour, froth.gas_at, 2, (0, 1))
        self.assert_none(NoHour, froth.gas_at, 2, (2, 1))
        # Film 6 parts the new bubble from bubble 1, which had another row at that hour as that bubble came.
        self.assertEqual([row("0", "4", 6), row("1", "4", 8), row("1", "9", 6)], froth.ledger(1))
        self.assertEqual((9, 1), froth.gas_at(1, (1, 1)))

    def test_at_the_hour_of_bursting(self):
        froth = done(1, 2, [10, 4], [("wait", 3, 2), ("burst", 0)])
        self.assertEqual((0, 1), froth.gas_at(1, (3, 2)))
        self.assertEqual((4, 1), froth.gas_at(1, (1, 1)))
        self.assertEqual((14, 1), froth.gas_at(0, (3, 2)))
        self.assertEqual((10, 1), froth.gas_at(0, (89, 60)))
        self.assert_none(NoHour, froth.gas_at, 1, (2, 1))
        froth.deed(("wait", 1, 1))
        self.assert_none(NoHour, froth.gas_at, 1, (2, 1))
        self.assertEqual((14, 1), froth.gas_at(0, (2, 1)))

    def test_no_bubble_goes_first(self):
        froth = Froth(1, 2, [10, 4])
        for name in NEVER:
            for hour in [(0, 1), (-1, 1), (1, 1), (1, 60)]:
                self.assert_none(NoBubble, froth.gas_at, name, hour)
        self.assert_none(NoHour, froth.gas_at, 1, (1, 60))

    def test_now(self):
        froth = many_done()
        for name in froth.bubbles():
            self.assertEqual(froth.gas(name), froth.gas_at(name, froth.hour()))

    def test_at_each_row(self):
        froth = many_done()
        for name in range(ever_named(froth)):
            rows = froth.ledger(name)
            for at, (hour, gas, sides) in enumerate(rows):
                if at + 1 == len(rows) or rows[at + 1][0] != hour:
                    self.assertEqual(gas, froth.gas_at(name, hour))

    def test_asking_of_the_past_changes_nothing(self):
        froth = many_done()
        before = asked(froth)
        froth.gas_at(0, (1, 7))
        self.assert_none(NoHour, froth.gas_at, 6, (1, 5))
        self.assertEqual(before, asked(froth))


if __name__ == "__main__":
    unittest.main()
