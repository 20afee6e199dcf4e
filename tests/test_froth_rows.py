"""Points 14 to 20 and 31 over long rows of orders, held against a froth told a second time; twins."""

import unittest
from fractions import Fraction

from frothwane.errors import FrothError, NoEnd, NoHour
from frothwane.froth import Froth
from frothwane.looker import web_fault
from tests.frothcase import FrothCase, filled, many_done, thrown_order
from tests.helpers import Dice
from tests.model import Model, Refused, asked, pair

SIZES = [(1, 1), (1, 2), (2, 1), (2, 2), (1, 5), (2, 3), (3, 3)]


def told_or_refused(froth, order, refusal):
    """The rows of a deed, or the name of its refusal."""
    try:
        return froth.deed(order)
    except refusal as found:
        return str(found) if refusal is Refused else type(found).__name__


class AgainstTheModelTest(FrothCase):
    def test_long_rows(self):
        seen = {}
        for seed in range(28):
            dice = Dice(seed)
            rows, cols = SIZES[seed % len(SIZES)]
            gases = [1 + dice.roll(25) for name in range(rows * cols)]
            froth = Froth(rows, cols, gases)
            model = Model(rows, cols, gases)
            for turn in range(60):
                order = thrown_order(dice, model.web(), model.asked()["bubble_of"])
                wanted = told_or_refused(model, order, Refused)
                told = told_or_refused(froth, order, FrothError)
                self.assertEqual(wanted, told, (seed, turn, order))
                self.assert_as_model(model, froth)
                for word in [wanted] if type(wanted) is str else [one[1] for one in wanted]:
                    seen[word] = seen.get(word, 0) + 1
            self.assert_past(model, froth, dice)
        for word in ("push", "pull", "burst", "part", "blow", "gone", "OneBubble", "SameFilm", "BadGas"):
            self.assertGreater(seen.get(word, 0), 10, word)

    def assert_as_model(self, model, froth):
        wanted = model.asked()
        told = asked(froth, sorted(model.ledgers))
        for key in wanted:
            self.assertEqual(wanted[key], told[key], key)
        self.assertIsNone(web_fault(told["web"]))

    def assert_past(self, model, froth, dice):
        """Gas at hours of each sort: at rows, amid them, and ahead of and behind all."""
        hours = sorted({row[0] for rows in model.ledgers.values() for row in rows} | {model.hour})
        hours += [hour + Fraction(1 + dice.roll(5), 60) for hour in hours] + [Fraction(-1, 7)]
        for name in model.ledgers:
            for hour in hours:
                wanted = model.gas_at(name, hour)
                if wanted is None:
                    self.assert_none(NoHour, froth.gas_at, name, pair(hour))
                else:
                    self.assertEqual(pair(wanted), froth.gas_at(name, pair(hour)))

    def test_two_hundred_orders(self):
        dice = Dice(77)
        froth = Froth(2, 2, [10 ** 6, 1, 77, 1234])
        model = Model(2, 2, [10 ** 6, 1, 77, 1234])
        for turn in range(200):
            order = thrown_order(dice, model.web(), model.asked()["bubble_of"])
            self.assertEqual(told_or_refused(model, order, Refused), told_or_refused(froth, order, FrothError))
        self.assert_as_model(model, froth)
        self.assert_past(model, froth, dice)

    def test_long_waits_amid_deeds(self):
        for seed in range(6):
            dice = Dice(seed)
            froth = Froth(3, 3, list(range(1, 10)))
            model = Model(3, 3, list(range(1, 10)))
            for turn in range(8):
                for count in range(6):
                    order = thrown_order(dice, model.web(), model.asked()["bubble_of"])
                    self.assertEqual(told_or_refused(model, order, Refused), told_or_refused(froth, order, FrothError))
                order = ("wait", 10 ** 11 - dice.roll(60), 1 + dice.roll(60))
                self.assertEqual(model.deed(order), froth.deed(order))
                self.assert_as_model(model, froth)
                self.assertEqual({6}, set(asked(froth)["sides"].values()))


class GasIsKeptTest(FrothCase):
    def test_neither_lost_nor_made_but_by_blowing(self):
        for seed in range(10):
            dice = Dice(seed)
            froth = Froth(2, 3, [4, 5, 6, 7, 8, 9])
            total = Fraction(39)
            for turn in range(60):
                order = thrown_order(dice, froth.web(), {end: froth.bubble_of(end) for end in froth.web()})
                told = told_or_refused(froth, order, FrothError)
                if order[0] == "blow" and type(told) is list:
                    total += Fraction(order[2], order[3])
                self.assertEqual(pair(total), froth.total())
                self.assertEqual(total, sum(Fraction(*froth.gas(name)) for name in froth.bubbles()))
                self.assertTrue(all(froth.gas(name)[0] > 0 for name in froth.bubbles()))


class TwinTest(FrothCase):
    def test_it_is_as_the_froth(self):
        froth = many_done()
        twin = froth.twin()
        self.assertIsInstance(twin, Froth)
        self.assertIsNot(froth, twin)
        self.assert_same_froth(froth, twin)
        self.assert_same_froth(froth, twin.twin())
        self.assertEqual(froth.gas_at(7, (1, 5)), twin.gas_at(7, (1, 5)))

    def test_each_goes_its_own_way(self):
        orders = [("push", 10), ("pull", 4), ("burst", 10), ("part", 0, 16, 1, 2), ("blow", 0, 5, 1), ("wait", 7, 2)]
        for order in orders:
            froth = many_done()
            before = asked(froth)
            twin = froth.twin()
            twin.deed(order)
            self.assertEqual(before, asked(froth))
            self.assertNotEqual(before, asked(twin))
            twin = froth.twin()
            froth.deed(order)
            self.assertEqual(before, asked(twin))
            self.assertNotEqual(before, asked(froth))
            twin.deed(order)
            self.assert_same_froth(froth, twin)

    def test_new_ends_of_the_one_are_none_of_the_other(self):
        froth = many_done()
        ahead = froth.web()
        twin = froth.twin()
        for order in [("blow", 0, 5, 1), ("part", 0, 16, 1, 2)]:
            twin.deed(order)
            for end in twin.web():
                if end not in ahead:
                    self.assert_none(NoEnd, froth.bubble_of, end)

    def test_two_froths_have_nothing_to_do_with_each_other(self):
        one, two = Froth(1, 2, [10, 4]), Froth(1, 2, [10, 4])
        before = asked(two)
        one.deed(("push", 1))
        one.deed(("wait", 3, 1))
        self.assertEqual(before, asked(two))


class AskingTest(FrothCase):
    def test_asking_changes_nothing(self):
        froth = many_done()
        before = asked(froth)
        for turn in range(3):
            self.assertEqual(before, asked(froth))

    def test_told_lists_and_dicts_may_be_changed(self):
        froth = many_done()
        twin = froth.twin()
        before = asked(froth)
        rows = froth.deed(("blow", 0, 1, 1))
        behind = asked(froth)
        rows.append("more")
        froth.bubbles().clear()
        froth.web().clear()
        froth.web()[0] = 5
        froth.book().append("more")
        froth.book().clear()
        froth.ledger(0).append("more")
        froth.ledger(6).clear()
        corners, bubbles = froth.picture()
        corners.clear()
        bubbles.append("more")
        self.assertEqual(behind, asked(froth))
        self.assertEqual(before, asked(twin))

    def test_rows_of_each_deed_may_be_changed(self):
        for order in [("push", 10), ("pull", 4), ("burst", 10), ("part", 0, 16, 1, 2), ("wait", 7, 2), ("wait", 0, 1)]:
            froth = many_done()
            rows = froth.deed(order)
            before = asked(froth)
            rows.append("more")
            del rows[0]
            self.assertEqual(before, asked(froth))

    def test_told_are_plain_numbers_in_tuples_and_lists(self):
        froth = many_done()
        self.assert_told_plainly([froth.hour(), froth.total(), froth.next_to_go(), froth.book(), froth.bubbles()])
        self.assert_told_plainly([froth.deed(("wait", 10, 1)), froth.picture(), froth.web()])
        for told in (froth.hour(), froth.total(), froth.gas(0), froth.gas_at(0, (0, 1)), froth.picture()):
            self.assertIs(tuple, type(told))
        for told in (froth.book(), froth.bubbles(), froth.ledger(0), *froth.picture()):
            self.assertIs(list, type(told))
        for row in froth.book() + froth.ledger(0) + froth.picture()[0] + froth.picture()[1]:
            self.assertIs(tuple, type(row))
        for name in froth.bubbles():
            self.assert_told_plainly([froth.gas(name), froth.sides(name), froth.ledger(name)])
        self.assert_told_plainly([froth.bubble_of(end) for end in froth.web()])
        self.assert_told_plainly(Froth(1, 1, [1]).picture())
        self.assert_told_plainly(filled(37).picture())

    def test_the_web_is_told_as_it_was(self):
        froth = many_done()
        web = froth.web()
        kept = dict(web)
        froth.deed(("push", 10))
        froth.deed(("wait", 9, 1))
        self.assertEqual(kept, web)


if __name__ == "__main__":
    unittest.main()
