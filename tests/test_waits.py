"""Points 12, 13 and 19: waiting, who goes, and the first to go of a froth."""

import unittest
from fractions import Fraction

from frothwane.froth import Froth
from frothwane.hours import first_to_go
from frothwane.moves import burst, pushed
from frothwane.web import comb
from tests.deeds import films_of
from tests.frothcase import LOOP_ORDERS, FrothCase, done, filled, many_done, thrown_order
from tests.helpers import Dice
from tests.model import asked

# comb(1, 3) behind these: bubbles 0 and 1 have five sides and are parted by film 0, bubble 2 has eight.
TWO_WANE = [("push", 1), ("push", 7)]
# comb(1, 3) behind these: bubbles 1 and 2 have five sides, bubble 0 has eight.
LATER_WANE = [("push", 1), ("push", 4)]


class WaitTest(FrothCase):
    def test_none_goes(self):
        froth = Froth(1, 3, [5, 6, 7])
        self.assertEqual([], froth.deed(("wait", 7, 2)))
        self.assertEqual((7, 2), froth.hour())
        self.assertEqual([(5, 1), (6, 1), (7, 1)], [froth.gas(name) for name in range(3)])
        froth.deed(("push", 1))
        self.assertEqual([], froth.deed(("wait", 1, 3)))
        self.assertEqual((23, 6), froth.hour())
        self.assertEqual([(16, 3), (16, 3), (22, 3)], [froth.gas(name) for name in range(3)])
        self.assertEqual([7, 4, 7], [froth.sides(name) for name in range(3)])
        self.assertEqual([((7, 2), "push", 1)], froth.book())
        # Waiting alone makes no row.
        self.assertEqual([((0, 1), (6, 1), 6), ((7, 2), (6, 1), 4)], froth.ledger(1))

    def test_hours_are_told_in_lowest_terms(self):
        froth = Froth(1, 1, [5])
        froth.deed(("wait", 6, 4))
        self.assertEqual((3, 2), froth.hour())
        froth.deed(("wait", 30, 60))
        self.assertEqual((2, 1), froth.hour())

    def test_nought_hours(self):
        froth = many_done()
        before = asked(froth)
        self.assertEqual([], froth.deed(("wait", 0, 1)))
        self.assertEqual([], froth.deed(("wait", 0, 60)))
        self.assertEqual(before, asked(froth))

    def test_nought_hours_behind_the_last_moment(self):
        # Whoever went at the last moment of the wait ahead is gone already.
        froth = done(1, 2, [10, 4], [("push", 1), ("wait", 2, 1)])
        self.assertEqual([0], froth.bubbles())
        self.assertEqual([], froth.deed(("wait", 0, 1)))

    def test_one_goes_written_out(self):
        froth = Froth(1, 2, [10, 4])
        froth.deed(("push", 1))
        self.assertEqual([8, 4], [froth.sides(0), froth.sides(1)])
        self.assertEqual([((2, 1), "gone", 0, 1, 0)], froth.deed(("wait", 3, 1)))
        self.assertEqual((3, 1), froth.hour())
        self.assertEqual([0], froth.bubbles())
        self.assertEqual([(14, 1), 6], [froth.gas(0), froth.sides(0)])
        self.assertEqual(burst(pushed(comb(1, 2), 1), 0), froth.web())
        self.assertEqual({0}, {froth.bubble_of(end) for end in froth.web()})
        self.assertEqual([((0, 1), "push", 1), ((2, 1), "gone", 0, 1, 0)], froth.book())
        self.assertEqual([((0, 1), (10, 1), 6), ((0, 1), (10, 1), 8), ((2, 1), (14, 1), 6)], froth.ledger(0))
        self.assertEqual([((0, 1), (4, 1), 6), ((0, 1), (4, 1), 4), ((2, 1), (0, 1), 0)], froth.ledger(1))

    def test_at_the_last_moment_and_just_ahead_of_it(self):
        froth = done(1, 2, [10, 4], [("push", 1)])
        self.assertEqual([], froth.deed(("wait", 119, 60)))
        self.assertEqual([0, 1], froth.bubbles())
        self.assertEqual((1, 30), froth.gas(1))
        self.assertEqual([((2, 1), "gone", 0, 1, 0)], froth.deed(("wait", 1, 60)))
        self.assertEqual((2, 1), froth.hour())
        self.assertEqual([0], froth.bubbles())

    def test_a_moment_that_is_no_whole_number(self):
        # Bubble 1 has 4 sides and loses 2 in each hour.
        froth = done(1, 3, [5, 7, 9], [("push", 1)])
        self.assertEqual([((7, 2), "gone", 0, 1, 0)], froth.deed(("wait", 10 ** 11, 1)))
        self.assertEqual((10 ** 11, 1), froth.hour())
        self.assertEqual([(17, 2), (25, 2)], [froth.gas(0), froth.gas(2)])

    def test_gas_of_the_other_bubble_is_kept(self):
        # Bubble 1 goes into bubble 0, which gets a gas by no one but by its own sides.
        froth = done(1, 2, [10, 4], [("push", 1), ("wait", 2, 1)])
        self.assertEqual((14, 1), froth.gas(0))


class WhichFilmTest(FrothCase):
    def test_the_name_that_stays_may_be_the_greater_one(self):
        froth = done(1, 3, [2, 5, 20], TWO_WANE)
        self.assertEqual([((2, 1), "gone", 0, 0, 1)], froth.deed(("wait", 2, 1)))
        self.assertEqual([1, 2], froth.bubbles())
        self.assertEqual([(3, 1), 6], [froth.gas(1), froth.sides(1)])

    def test_the_least_film_that_parts_it_from_another(self):
        # A bubble blown into each corner of a comb has three films; the least of its neighbours' films is higher.
        for end in range(0, 54, 5):
            froth = Froth(3, 3, [9] * 9)
            froth.deed(("blow", end, 1, 1))
            ahead = froth.web()
            low = min(one // 2 for one in ahead if froth.bubble_of(one) == 9)
            kept = froth.bubble_of(2 * low)
            self.assertEqual([((1, 3), "gone", low, 9, kept)], froth.deed(("wait", 1, 3)))
            self.assertEqual(burst(ahead, low), froth.web())

    def test_films_with_the_bubble_on_both_hands_are_passed_over(self):
        # Film 1 has bubble 1 on both hands, film 0 has been burst away by an earlier going.
        froth = Froth(1, 2, [4, 10])
        froth.deed(("push", 4))
        self.assertEqual([4, 8], [froth.sides(0), froth.sides(1)])
        self.assertEqual({1}, {froth.bubble_of(2), froth.bubble_of(3)})
        self.assertEqual([((2, 1), "gone", 0, 0, 1)], froth.deed(("wait", 2, 1)))
        one = done(1, 1, [5], [("blow", 0, 3, 1), ("push", 3), ("push", 4)])
        # Films 0, 1 and 2 have bubble 0 on both hands; film 5 leads back to its own corner round bubble 1.
        self.assertEqual([((3, 5), "gone", 5, 1, 0)], one.deed(("wait", 3, 5)))
        self.assertEqual([(8, 1), 6], [one.gas(0), one.sides(0)])

    def test_a_film_with_the_one_that_goes_on_both_hands(self):
        # Bubble 1 is held by film 3 amid bubble 2, which film 3 doesn't part from another one; films 6 and 7 do.
        orders = [("blow", 1, 50, 1), ("push", 4), ("push", 5), ("blow", 7, 2, 1), ("push", 3)]
        froth = done(1, 1, [30], orders)
        self.assertEqual([12, 1, 5], [froth.sides(name) for name in range(3)])
        self.assertEqual([2, 2], [froth.bubble_of(6), froth.bubble_of(7)])
        self.assertEqual([((2, 1), "gone", 6, 2, 0)], froth.deed(("wait", 2, 1)))
        self.assertEqual([0, 0], [froth.bubble_of(6), froth.bubble_of(7)])
        self.assertEqual([(42, 1), (40, 1)], [froth.gas(0), froth.gas(1)])
        self.assertEqual([11, 1], [froth.sides(0), froth.sides(1)])


class SidesChangeTest(FrothCase):
    def test_one_that_wanes_no_longer(self):
        froth = done(1, 3, [2, 5, 20], TWO_WANE)
        self.assertEqual([((2, 1), "gone", 0, 0, 1)], froth.deed(("wait", 100, 1)))
        self.assertEqual([((0, 1), (5, 1), 6), ((0, 1), (5, 1), 4), ((0, 1), (5, 1), 5), ((2, 1), (3, 1), 6)],
                         froth.ledger(1))
        self.assertEqual([(3, 1), (24, 1)], [froth.gas(1), froth.gas(2)])

    def test_one_that_wanes_faster(self):
        # Bubble 2 has lost 5 of its 20 by hour 5, then it has four sides.
        froth = done(1, 3, [2, 5, 20], LATER_WANE)
        wanted = [((5, 1), "gone", 0, 1, 0), ((25, 2), "gone", 1, 2, 0)]
        self.assertEqual(wanted, froth.deed(("wait", 25, 2)))
        self.assertEqual(((5, 1), (15, 1), 4), froth.ledger(2)[-2])
        self.assertEqual(((25, 2), (0, 1), 0), froth.ledger(2)[-1])
        # Bubble 0 had eight sides ahead of the first going and behind it, so that made no row.
        self.assertEqual([((0, 1), (2, 1), 8), ((25, 2), (27, 1), 6)], froth.ledger(0)[-2:])

    def test_one_whose_sides_are_changed_by_a_deed(self):
        froth = done(1, 3, [5, 6, 7], [("push", 1), ("wait", 1, 1)])
        self.assertEqual(((2, 1), 1), froth.next_to_go())
        froth.deed(("push", 7))
        self.assertEqual([5, 5, 8], [froth.sides(name) for name in range(3)])
        self.assertEqual(((4, 1), 1), froth.next_to_go())
        self.assertEqual([((1, 1), (4, 1), 5)], froth.ledger(1)[-1:])


class OneMomentTest(FrothCase):
    def test_several_by_their_names(self):
        # Blown bubbles lose three in an hour; those of the gas 1 and 2 go at the thirds.
        froth = Froth(3, 3, [50] * 9)
        for end, gas in [(0, 2), (12, 1), (24, 1), (36, 1)]:
            froth.deed(("blow", end, gas, 1))
        rows = froth.deed(("wait", 1, 1))
        self.assertEqual([((1, 3), 10), ((1, 3), 11), ((1, 3), 12), ((2, 3), 9)], [(row[0], row[3]) for row in rows])
        self.assertEqual(list(range(9)), froth.bubbles())

    def test_with_gas_and_sides_unlike(self):
        # Bubble 10 has three sides and 6 of gas, bubble 9 has five sides and 2.
        froth = Froth(3, 3, [50] * 9)
        froth.deed(("part", 0, 31, 2, 1))
        froth.deed(("blow", 28, 6, 1))
        self.assertEqual([5, 3], [froth.sides(9), froth.sides(10)])
        rows = froth.deed(("wait", 2, 1))
        self.assertEqual([((2, 1), 9), ((2, 1), 10)], [(row[0], row[3]) for row in rows])

    def test_one_without_gas_that_has_got_six_sides(self):
        # Bubble 0 goes into bubble 1, which has no gas either but six sides then: it goes at that moment all the same.
        froth = done(1, 3, [2, 2, 20], TWO_WANE)
        self.assertEqual([5, 5, 8], [froth.sides(name) for name in range(3)])
        self.assertEqual([((2, 1), "gone", 0, 0, 1), ((2, 1), "gone", 1, 1, 2)], froth.deed(("wait", 2, 1)))
        wanted = [((0, 1), (2, 1), 6), ((0, 1), (2, 1), 4), ((0, 1), (2, 1), 5), ((2, 1), (0, 1), 6), ((2, 1), (0, 1), 0)]
        self.assertEqual(wanted, froth.ledger(1))
        self.assertEqual([2], froth.bubbles())
        self.assertEqual([(24, 1), 6], [froth.gas(2), froth.sides(2)])
        self.assertEqual((0, 1), froth.gas_at(1, (2, 1)))

    def test_of_several_each_is_asked_anew(self):
        # Bubbles 0, 1 and 4 of comb(2, 3) have no gas left at hour 2; 0 and 1 go into 4, then 4 into 5.
        froth = done(2, 3, [2, 2, 20, 20, 2, 20], [("push", 8), ("push", 10)])
        wanted = [((2, 1), "gone", 0, 0, 4), ((2, 1), "gone", 1, 1, 4), ((2, 1), "gone", 3, 4, 5)]
        self.assertEqual(wanted, froth.deed(("wait", 2, 1)))
        self.assertEqual([2, 3, 5], froth.bubbles())
        self.assertIn(((2, 1), (0, 1), 6), froth.ledger(4))

    def test_one_without_gas_that_has_got_more_than_six_sides(self):
        orders = [("push", 2), ("push", 10), ("push", 4), ("push", 12)]
        froth = done(2, 3, [2, 2, 2, 50, 2, 50], orders)
        self.assertEqual([5, 5, 5, 5], [froth.sides(name) for name in (0, 1, 2, 4)])
        wanted = [(0, 0, 4), (1, 1, 4), (5, 2, 4), (2, 4, 3)]
        self.assertEqual([((2, 1), "gone", *rest) for rest in wanted], froth.deed(("wait", 2, 1)))
        self.assertEqual([((2, 1), (0, 1), 8), ((2, 1), (0, 1), 0)], froth.ledger(4)[-2:])

    def test_all_that_have_none_go_at_that_moment_by_their_names(self):
        for seed in range(100):
            dice = Dice(seed)
            orders = [("push", dice.roll(27)) for turn in range(5)]
            froth = done(3, 3, [50] * 9, orders)
            waning = [name for name in range(9) if froth.sides(name) < 6]
            gases = [2 * (6 - froth.sides(name)) if name in waning else 50 for name in range(9)]
            rows = done(3, 3, gases, orders).deed(("wait", 2, 1))
            self.assertEqual([((2, 1), name) for name in waning], [(row[0], row[3]) for row in rows])


class LongWaitTest(FrothCase):
    def test_the_longest_wait(self):
        froth = done(2, 3, [5, 6, 7, 8, 9, 10], [("push", 4), ("blow", 0, 1, 7), ("wait", 10 ** 11, 1)])
        self.assertEqual((10 ** 11, 1), froth.hour())
        self.assertEqual({6}, {froth.sides(name) for name in froth.bubbles()})
        self.assertIsNone(froth.next_to_go())
        self.assertEqual((316, 7), froth.total())

    def test_who_waits_long_enough_finds_six_sides(self):
        for seed in range(12):
            dice = Dice(seed)
            froth = Froth(2, 3, [1 + dice.roll(9) for name in range(6)])
            for turn in range(20):
                web = froth.web()
                try:
                    froth.deed(thrown_order(dice, web, {end: froth.bubble_of(end) for end in web}))
                except ValueError:
                    pass
            total = froth.total()
            rows = froth.deed(("wait", 10 ** 11, 1))
            self.assertEqual({6}, {froth.sides(name) for name in froth.bubbles()})
            self.assertIsNone(froth.next_to_go())
            self.assertEqual(total, froth.total())
            self.assertEqual([], froth.deed(("wait", 10 ** 11, 1)))
            hours = [Fraction(*row[0]) for row in rows]
            self.assertEqual(sorted(hours), hours)

    def test_sixty_bubbles(self):
        froth = filled(60)
        total = froth.total()
        self.assertEqual((336, 1), total)
        self.assertEqual(((1, 6), 36), froth.next_to_go())
        rows = froth.deed(("wait", 10 ** 11, 1))
        self.assertEqual(60 - len(froth.bubbles()), len(rows))
        self.assertEqual(total, froth.total())
        self.assertEqual({6}, {froth.sides(name) for name in froth.bubbles()})


class PiecesTest(FrothCase):
    def begun(self, seed):
        """A froth behind some deeds, in which some wane."""
        dice = Dice(seed)
        froth = Froth(2, 3, [1 + dice.roll(30) for name in range(6)])
        for turn in range(8):
            film = dice.pick(films_of(froth.web()))
            order = dice.pick([("push", film), ("pull", film), ("blow", 2 * film, 1 + dice.roll(20), 1 + dice.roll(4))])
            try:
                froth.deed(order)
            except ValueError:
                pass
        return froth

    def test_pieces_are_the_same_as_one_wait(self):
        goings = 0
        for seed in range(25):
            froth = self.begun(seed)
            at_once = froth.twin()
            rows = at_once.deed(("wait", 7, 1))
            goings += len(rows)
            for pieces in ([(1, 2)] * 14, [(7, 60)] * 60, [(0, 1), (1, 1), (2, 3), (16, 3), (0, 1)], [(13, 2), (1, 2)]):
                twin = froth.twin()
                told = []
                for num, den in pieces:
                    told += twin.deed(("wait", num, den))
                self.assertEqual(rows, told)
                self.assert_same_froth(at_once, twin)
                for name in at_once.bubbles():
                    for hour in [(0, 1), (1, 3), (7, 2), (7, 1)]:
                        if Fraction(*hour) >= Fraction(*at_once.ledger(name)[0][0]):
                            self.assertEqual(at_once.gas_at(name, hour), twin.gas_at(name, hour))
        self.assertGreater(goings, 50)

    def test_pieces_up_to_each_very_moment(self):
        # Pieces that end just when someone goes, where the moment can be told by an order.
        froth = done(1, 3, [2, 5, 20], LATER_WANE)
        at_once = froth.twin()
        rows = at_once.deed(("wait", 30, 1))
        told = [froth.deed(("wait", num, den)) for num, den in [(5, 1), (0, 1), (15, 2), (35, 2)]]
        self.assertEqual([rows[:1], [], rows[1:], []], told)
        self.assert_same_froth(at_once, froth)


class NextToGoTest(FrothCase):
    def test_written_out(self):
        self.assertIsNone(Froth(1, 3, [5, 6, 7]).next_to_go())
        self.assertEqual(((7, 2), 1), done(1, 3, [5, 7, 7], [("push", 1)]).next_to_go())
        # Of like hours the least name.
        self.assertEqual(((2, 1), 0), done(1, 3, [2, 2, 20], TWO_WANE).next_to_go())
        self.assertEqual(((1, 1), 1), done(1, 3, [2, 1, 20], TWO_WANE).next_to_go())
        self.assertEqual(((1, 5), 1), done(1, 1, [5], LOOP_ORDERS).next_to_go())

    def test_from_now_on(self):
        froth = done(1, 3, [2, 2, 20], [*TWO_WANE, ("wait", 3, 2)])
        self.assertEqual(((1, 2), 0), froth.next_to_go())

    def test_as_first_to_go_tells_it(self):
        froth = many_done()
        rows = [(name, froth.gas(name), froth.sides(name)) for name in froth.bubbles()]
        self.assertEqual(first_to_go(rows), froth.next_to_go())
        self.assertEqual(((137, 180), 8), froth.next_to_go())

    def test_that_one_goes_then(self):
        froth = done(1, 3, [5, 7, 7], [("push", 1)])
        hours, name = froth.next_to_go()
        self.assertEqual((hours, name), [(row[0], row[3]) for row in froth.deed(("wait", *hours))][0])


if __name__ == "__main__":
    unittest.main()
