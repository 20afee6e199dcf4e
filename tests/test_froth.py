"""Points 14 to 17: a froth as it begins, its orders, their refusals and their rows."""

import unittest

from frothwane.errors import (
    BadBegin, BadGas, BadTime, Full, Looped, NoBubble, NoEnd, NoFilm, NoOrder, NotOne, OneBubble, SameFilm,
)
from frothwane.froth import Froth
from frothwane.moves import blown, burst, parted, pulled, pushed
from frothwane.web import comb, rim
from tests.frothcase import LOOP_ORDERS, FrothCase, done, filled
from tests.helpers import comb_sizes, web_of
from tests.model import asked

NOW = (0, 1)


class BeginTest(FrothCase):
    def test_each_method_written_out(self):
        froth = Froth(1, 2, [10, 4])
        self.assertEqual((0, 1), froth.hour())
        self.assertEqual([0, 1], froth.bubbles())
        self.assertEqual([(10, 1), (4, 1)], [froth.gas(0), froth.gas(1)])
        self.assertEqual([6, 6], [froth.sides(0), froth.sides(1)])
        self.assertEqual([0, 1, 1, 1, 1, 0, 1, 0, 0, 0, 0, 1], [froth.bubble_of(end) for end in range(12)])
        self.assertEqual(web_of([(0, 2, 4), (6, 8, 10), (1, 9, 5), (7, 3, 11)]), froth.web())
        self.assertEqual((14, 1), froth.total())
        self.assertIsNone(froth.next_to_go())
        self.assertEqual([], froth.book())
        self.assertEqual([((0, 1), (10, 1), 6)], froth.ledger(0))
        self.assertEqual([((0, 1), (4, 1), 6)], froth.ledger(1))
        self.assertEqual((4, 1), froth.gas_at(1, (0, 1)))
        corners = [(0, 2, 4), (1, 9, 5), (3, 11, 7), (6, 8, 10)]
        self.assertEqual((corners, [(0, (10, 1)), (1, (4, 1))]), froth.picture())
        self.assert_same_froth(froth, froth.twin())

    def test_each_size(self):
        for rows, cols in comb_sizes():
            froth = Froth(rows, cols, list(range(5, 5 + rows * cols)))
            names = list(range(rows * cols))
            self.assertEqual(comb(rows, cols), froth.web())
            self.assertEqual(names, froth.bubbles())
            for name in names:
                self.assertEqual(name, froth.bubble_of(6 * name))
                self.assertEqual((name + 5, 1), froth.gas(name))
                self.assertEqual(6, froth.sides(name))
                self.assertEqual([((0, 1), (name + 5, 1), 6)], froth.ledger(name))
                self.assertEqual({name}, {froth.bubble_of(end) for end in rim(froth.web(), 6 * name)})

    def test_by_the_names_of_the_arguments(self):
        froth = Froth(rows=2, cols=1, gases=[3, 4])
        self.assertEqual([(0, 1, "push", 0)], [(*row[0], *row[1:]) for row in froth.deed(order=("push", 0))])
        self.assertEqual((3, 1), froth.gas(name=0))
        self.assertEqual((3, 1), froth.gas_at(name=0, hour=(0, 1)))
        self.assertEqual(froth.sides(0), froth.sides(name=0))
        self.assertEqual(froth.ledger(1), froth.ledger(name=1))
        self.assertEqual(froth.bubble_of(5), froth.bubble_of(end=5))

    def test_gases_changed_behind_the_call(self):
        gases = [10, 4]
        froth = Froth(1, 2, gases)
        gases[0] = 99
        gases.append(5)
        self.assertEqual([10, 4], [froth.gas(0)[0], froth.gas(1)[0]])
        self.assertEqual([0, 1], froth.bubbles())

    def test_gases_are_not_changed(self):
        gases = [10, 4]
        froth = Froth(1, 2, gases)
        froth.deed(("push", 1))
        froth.deed(("wait", 1, 1))
        self.assertEqual([10, 4], gases)

    def test_bad_begins(self):
        bad = [
            (0, 1, []), (1, 0, []), (0, 0, []), (0, 1, [5]), (-1, 1, [5]), (1, -1, [5]), (-1, -1, [5]), (-2, -3, [5] * 6),
            (1, 37, [5] * 37), (37, 1, [5] * 37), (6, 7, [5] * 42), (2, 19, [5] * 38),
            (1, 2, [5]), (1, 2, [5, 5, 5]), (1, 2, []), (1, 1, []), (6, 6, [5] * 35), (6, 6, [5] * 37),
            (1, 1, [0]), (1, 1, [-1]), (1, 1, [10 ** 6 + 1]), (1, 2, [5, 0]), (1, 3, [5, 5, 10 ** 6 + 1]),
            (6, 6, [5] * 35 + [0]), (1, 1, [10 ** 12 - 1]), (1, 1, [1 - 10 ** 12]),
            (10 ** 12 - 1, 10 ** 12 - 1, [5]), (1 - 10 ** 12, 1 - 10 ** 12, [5]), (10 ** 12 - 1, 1, [5]),
            (1, 10 ** 12 - 1, [5]), (1 - 10 ** 12, 1, [5]), (1, 1 - 10 ** 12, [5]),
        ]
        for rows, cols, gases in bad:
            with self.subTest((rows, cols, gases)):
                self.assert_none(BadBegin, Froth, rows, cols, gases)

    def test_bounds_of_begins(self):
        for rows, cols in [(1, 36), (36, 1), (6, 6), (4, 9), (1, 1)]:
            self.assertEqual(rows * cols, len(Froth(rows, cols, [1] * (rows * cols)).bubbles()))
            self.assertEqual((10 ** 6, 1), Froth(rows, cols, [10 ** 6] * (rows * cols)).gas(0))


class PushAndPullTest(FrothCase):
    def test_pushed_written_out(self):
        # Film 1 of comb(1, 3) has bubble 1 on both hands and bubbles 0 and 2 beyond its ends.
        froth = Froth(1, 3, [5, 6, 7])
        self.assertEqual([(NOW, "push", 1)], froth.deed(("push", 1)))
        self.assertEqual(pushed(comb(1, 3), 1), froth.web())
        self.assertEqual([7, 4, 7], [froth.sides(name) for name in range(3)])
        self.assertEqual([(5, 1), (6, 1), (7, 1)], [froth.gas(name) for name in range(3)])
        self.assertEqual([2, 0], [froth.bubble_of(2), froth.bubble_of(3)])
        self.assertEqual([(NOW, "push", 1)], froth.book())
        self.assertEqual([(NOW, (6, 1), 6), (NOW, (6, 1), 4)], froth.ledger(1))
        self.assertEqual([(NOW, (7, 1), 6), (NOW, (7, 1), 7)], froth.ledger(2))

    def test_pulled_written_out(self):
        froth = Froth(1, 3, [5, 6, 7])
        self.assertEqual([(NOW, "pull", 1)], froth.deed(("pull", 1)))
        self.assertEqual(pulled(comb(1, 3), 1), froth.web())
        self.assertEqual([7, 4, 7], [froth.sides(name) for name in range(3)])
        self.assertEqual([0, 2], [froth.bubble_of(2), froth.bubble_of(3)])
        self.assertEqual([(NOW, "pull", 1)], froth.book())

    def test_a_pull_takes_a_push_back(self):
        froth = Froth(2, 3, [5] * 6)
        owners = [froth.bubble_of(end) for end in range(36)]
        for film in range(18):
            froth.deed(("push", film))
            froth.deed(("pull", film))
            self.assertEqual(comb(2, 3), froth.web())
            self.assertEqual(owners, [froth.bubble_of(end) for end in range(36)])
        self.assertEqual(36, len(froth.book()))

    def test_no_row_where_the_sides_stay_as_many(self):
        # The bubbles on the hands of film 0 of comb(1, 2) are those beyond its ends, too.
        froth = Froth(1, 2, [5, 6])
        self.assertEqual([(NOW, "push", 0)], froth.deed(("push", 0)))
        self.assertEqual([[(NOW, (5, 1), 6)], [(NOW, (6, 1), 6)]], [froth.ledger(0), froth.ledger(1)])
        self.assertEqual([1, 0], [froth.bubble_of(1), froth.bubble_of(0)])

    def test_refusals(self):
        for word in ("push", "pull"):
            froth = Froth(1, 2, [5, 6])
            for film in (6, 7, -1, -3, 10 ** 12 - 1, 1 - 10 ** 12):
                self.assert_refused(NoFilm, froth, (word, film))
            froth = done(1, 1, [5], LOOP_ORDERS)
            self.assertEqual(1, froth.sides(1))
            self.assert_refused(Looped, froth, (word, 5))
            froth.deed(("burst", 5))
            self.assert_refused(NoFilm, froth, (word, 5))


class BurstTest(FrothCase):
    def test_written_out(self):
        # Film 0 of comb(3, 3) parts bubbles 0 and 7.
        froth = Froth(3, 3, list(range(1, 10)))
        self.assertEqual([0, 7], [froth.bubble_of(0), froth.bubble_of(1)])
        beyond = [name for name in range(9) if name not in (0, 7)]
        self.assertEqual([(NOW, "burst", 0, 7, 0)], froth.deed(("burst", 0)))
        self.assertEqual(burst(comb(3, 3), 0), froth.web())
        self.assertEqual([0, 1, 2, 3, 4, 5, 6, 8], froth.bubbles())
        self.assertEqual([(9, 1), 8], [froth.gas(0), froth.sides(0)])
        self.assertEqual([(NOW, (1, 1), 6), (NOW, (9, 1), 8)], froth.ledger(0))
        self.assertEqual([(NOW, (8, 1), 6), (NOW, (0, 1), 0)], froth.ledger(7))
        self.assertEqual([5, 5, 6, 6, 6, 6, 6], sorted(froth.sides(name) for name in beyond))
        self.assertEqual([(NOW, "burst", 0, 7, 0)], froth.book())
        self.assertEqual((45, 1), froth.total())

    def test_the_lesser_name_is_kept_whichever_end_is_its(self):
        told = {}
        for film in range(27):
            froth = Froth(3, 3, list(range(1, 10)))
            hands = [froth.bubble_of(2 * film), froth.bubble_of(2 * film + 1)]
            told[hands[0] < hands[1]] = True
            gas = froth.gas(hands[0])[0] + froth.gas(hands[1])[0]
            self.assertEqual([(NOW, "burst", film, max(hands), min(hands))], froth.deed(("burst", film)))
            self.assertEqual((gas, 1), froth.gas(min(hands)))
            self.assert_none(NoBubble, froth.gas, max(hands))
        self.assertEqual({True: True, False: True}, told)

    def test_all_of_one_bubble_left(self):
        # Bubble 1 of comb(1, 2) keeps all films that are left, but the name that stays is 0.
        froth = Froth(1, 2, [10, 4])
        froth.deed(("burst", 5))
        self.assertEqual([0], froth.bubbles())
        self.assertEqual({0}, {froth.bubble_of(end) for end in froth.web()})
        self.assertEqual([(14, 1), 6], [froth.gas(0), froth.sides(0)])
        # Its sides are as many as they were, but its gas is another one.
        self.assertEqual([(NOW, (10, 1), 6), (NOW, (14, 1), 6)], froth.ledger(0))

    def test_film_back_to_its_own_corner(self):
        froth = done(1, 1, [5], LOOP_ORDERS)
        self.assertEqual([(NOW, "burst", 5, 1, 0)], froth.deed(("burst", 5)))
        self.assertEqual([(6, 1), 6], [froth.gas(0), froth.sides(0)])

    def test_after_a_wait(self):
        # Bubble 1 has 4 sides, bubbles 0 and 2 have 7.
        froth = Froth(1, 3, [5, 6, 7])
        froth.deed(("push", 1))
        froth.deed(("wait", 3, 2))
        self.assertEqual([((3, 2), "burst", 0, 1, 0)], froth.deed(("burst", 0)))
        self.assertEqual((19, 2), froth.gas(0))
        self.assertEqual(((3, 2), (19, 2), froth.sides(0)), froth.ledger(0)[-1])
        self.assertEqual(((3, 2), (0, 1), 0), froth.ledger(1)[-1])

    def test_refusals(self):
        froth = Froth(1, 2, [5, 6])
        for film in (6, 7, -1, -3, 10 ** 12 - 1, 1 - 10 ** 12):
            self.assert_refused(NoFilm, froth, ("burst", film))
        for film in (1, 4):
            self.assert_refused(OneBubble, froth, ("burst", film))
        one = Froth(1, 1, [5])
        for film in range(3):
            self.assert_refused(OneBubble, one, ("burst", film))


class PartTest(FrothCase):
    def test_written_out(self):
        # The rim of bubble 0 of comb(3, 3) is [0, 15, 16, 31, 32, 5].
        froth = Froth(3, 3, [9] * 9)
        self.assertEqual([(NOW, "part", 0, 9)], froth.deed(("part", 0, 31, 5, 2)))
        self.assertEqual(parted(comb(3, 3), 0, 31, 27), froth.web())
        self.assertEqual(list(range(10)), froth.bubbles())
        self.assertEqual([(13, 2), (5, 2)], [froth.gas(0), froth.gas(9)])
        self.assertEqual([5, 5], [froth.sides(0), froth.sides(9)])
        self.assertEqual({0: 0, 31: 9, 15: 9, 16: 9, 32: 0, 5: 0, 58: 0, 59: 9, 56: 0, 54: 9},
                         {end: froth.bubble_of(end) for end in (0, 31, 15, 16, 32, 5, 58, 59, 56, 54)})
        self.assertEqual([(NOW, (9, 1), 6), (NOW, (13, 2), 5)], froth.ledger(0))
        self.assertEqual([(NOW, (5, 2), 5)], froth.ledger(9))
        self.assertEqual([(NOW, "part", 0, 9)], froth.book())

    def test_the_other_way_about(self):
        froth = Froth(3, 3, [9] * 9)
        froth.deed(("part", 31, 0, 5, 2))
        self.assertEqual([9, 0], [froth.bubble_of(0), froth.bubble_of(31)])
        self.assertEqual([(13, 2), (5, 2)], [froth.gas(0), froth.gas(9)])

    def test_gas_is_told_in_lowest_terms(self):
        froth = Froth(3, 3, [9] * 9)
        froth.deed(("part", 0, 31, 6, 4))
        self.assertEqual([(15, 2), (3, 2)], [froth.gas(0), froth.gas(9)])

    def test_sides_with_the_same_bubble_beyond(self):
        # Films 1 and 4 of comb(1, 2) have one bubble on both hands.
        for one, two in [(8, 0), (0, 8), (9, 0), (8, 5), (5, 9)]:
            froth = Froth(1, 2, [9, 4])
            self.assertEqual([(NOW, "part", 0, 2)], froth.deed(("part", one, two, 1, 1)))
            self.assertEqual([0, 2], [froth.bubble_of(one), froth.bubble_of(two)])
            self.assertEqual(18, sum(froth.sides(name) for name in froth.bubbles()))

    def test_refusals(self):
        froth = Froth(1, 2, [9, 4])
        for end in (12, -1, -2, 10 ** 12 - 1, 1 - 10 ** 12):
            self.assert_refused(NoEnd, froth, ("part", end, 0, 1, 1))
            self.assert_refused(NoEnd, froth, ("part", 0, end, 1, 1))
            self.assert_refused(NoEnd, froth, ("part", end, end, 1, 1))
        self.assert_refused(NotOne, froth, ("part", 0, 6, 1, 1))
        self.assert_refused(SameFilm, froth, ("part", 8, 9, 1, 1))
        self.assert_refused(SameFilm, froth, ("part", 0, 0, 1, 1))

    def test_bounds_of_gas(self):
        bad = [(0, 1), (-1, 1), (10 ** 6 + 1, 60), (1, 0), (1, -1), (1, 61), (-1, -1), (0, 0), (10 ** 12 - 1, 60)]
        for num, den in bad:
            self.assert_refused(BadGas, Froth(1, 2, [10 ** 6, 4]), ("part", 0, 9, num, den))
        for num, den in [(1, 1), (1, 60), (10 ** 6, 60), (10 ** 6 - 1, 1), (10 ** 6, 2)]:
            froth = Froth(1, 2, [10 ** 6, 4])
            froth.deed(("part", 0, 9, num, den))
            self.assertEqual(froth.gas(2)[0] * den, froth.gas(2)[1] * num)
        self.assert_refused(BadGas, Froth(1, 2, [10 ** 6, 4]), ("part", 0, 9, 10 ** 6, 1))

    def test_not_more_gas_than_that(self):
        for num, den in [(9, 1), (18, 2), (540, 60), (541, 60), (10, 1), (10 ** 6, 1)]:
            self.assert_refused(BadGas, Froth(1, 2, [9, 4]), ("part", 0, 9, num, den))
        froth = Froth(1, 2, [9, 4])
        froth.deed(("part", 0, 9, 539, 60))
        self.assertEqual([(1, 60), (539, 60)], [froth.gas(0), froth.gas(2)])

    def test_not_more_gas_than_that_at_a_later_hour(self):
        # Bubble 1 has 4 sides, so of 6 it has 4 left at hour 1.
        orders = [("push", 1), ("wait", 1, 1)]
        ends = rim(pushed(comb(1, 3), 1), 1)
        order = ("part", ends[0], ends[2])
        self.assert_refused(BadGas, done(1, 3, [5, 6, 7], orders), (*order, 4, 1))
        froth = done(1, 3, [5, 6, 7], orders)
        self.assertEqual([((1, 1), "part", 1, 3)], froth.deed((*order, 7, 2)))
        self.assertEqual([(1, 2), (7, 2)], [froth.gas(1), froth.gas(3)])
        self.assertEqual(((1, 1), (7, 2), froth.sides(3)), froth.ledger(3)[0])

    def test_which_goes_first(self):
        froth = Froth(1, 2, [9, 4])
        self.assert_refused(NoEnd, froth, ("part", 12, 12, 0, 0))
        self.assert_refused(NoEnd, froth, ("part", 0, 99, 99, 1))
        # The two ends of film 0 lie on two rims.
        self.assert_refused(NotOne, froth, ("part", 0, 1, 1, 1))
        self.assert_refused(NotOne, froth, ("part", 0, 1, 0, 0))
        self.assert_refused(SameFilm, froth, ("part", 0, 0, 9, 1))
        self.assert_refused(SameFilm, froth, ("part", 8, 9, 1, 61))


class BlowTest(FrothCase):
    def test_written_out(self):
        froth = Froth(3, 3, [9] * 9)
        self.assertEqual([(NOW, "blow", 9)], froth.deed(("blow", 2, 5, 2)))
        self.assertEqual(blown(comb(3, 3), 2, 27), froth.web())
        self.assertEqual(list(range(10)), froth.bubbles())
        self.assertEqual([(5, 2), 3], [froth.gas(9), froth.sides(9)])
        self.assertEqual([9, 9, 9], [froth.bubble_of(end) for end in (55, 57, 59)])
        self.assertEqual([(NOW, (5, 2), 3)], froth.ledger(9))
        round_it = [froth.bubble_of(end) for end in (54, 56, 58)]
        self.assertEqual(3, len(set(round_it)))
        for name in round_it:
            self.assertEqual([(NOW, (9, 1), 6), (NOW, (9, 1), 7)], froth.ledger(name))
        self.assertEqual((167, 2), froth.total())
        self.assertEqual([(NOW, "blow", 9)], froth.book())

    def test_one_bubble_all_round(self):
        froth = Froth(1, 1, [5])
        froth.deed(("blow", 5, 4, 6))
        self.assertEqual([9, 3], [froth.sides(0), froth.sides(1)])
        self.assertEqual([(NOW, (5, 1), 6), (NOW, (5, 1), 9)], froth.ledger(0))
        self.assertEqual((2, 3), froth.gas(1))

    def test_refusals(self):
        froth = Froth(1, 2, [9, 4])
        for end in (12, -1, -2, 10 ** 12 - 1, 1 - 10 ** 12):
            self.assert_refused(NoEnd, froth, ("blow", end, 1, 1))
            self.assert_refused(NoEnd, froth, ("blow", end, 0, 61))
        bad = [(0, 1), (-1, 1), (10 ** 6 + 1, 1), (10 ** 6 + 1, 60), (1, 0), (1, -1), (1, 61), (-1, -1), (60, 120)]
        for num, den in bad:
            self.assert_refused(BadGas, froth, ("blow", 0, num, den))

    def test_bounds_of_gas(self):
        for num, den in [(1, 1), (1, 60), (10 ** 6, 1), (10 ** 6, 59)]:
            froth = Froth(1, 2, [9, 4])
            froth.deed(("blow", 0, num, den))
            self.assertEqual((num, den), froth.gas(2))


class NumbersTest(FrothCase):
    def test_names_and_films_are_counted_on(self):
        froth = Froth(1, 2, [9, 4])
        self.assertEqual([(NOW, "blow", 2)], froth.deed(("blow", 0, 1, 1)))
        self.assertEqual({12, 13, 14, 15, 16, 17}, set(froth.web()) - set(range(12)))
        # Bubble 2 and film 8, the highest ones, are no more, and so is film 7.
        froth.deed(("burst", 8))
        self.assertEqual(set(), {14, 15, 16, 17} & set(froth.web()))
        self.assertEqual([0, 1], froth.bubbles())
        before = set(froth.web())
        self.assertEqual([(NOW, "blow", 3)], froth.deed(("blow", 0, 1, 1)))
        self.assertEqual({18, 19, 20, 21, 22, 23}, set(froth.web()) - before)
        ends = rim(froth.web(), 0)
        before = set(froth.web())
        self.assertEqual("part", froth.deed(("part", ends[0], ends[2], 1, 60))[0][1])
        self.assertEqual({24, 25, 26, 27, 28, 29}, set(froth.web()) - before)
        self.assertEqual([0, 1, 3, 4], froth.bubbles())

    def test_counted_on_from_one_that_went_by_waiting(self):
        froth = done(1, 2, [9, 4], [("blow", 0, 1, 1), ("wait", 1, 1)])
        self.assertEqual([0, 1], froth.bubbles())
        self.assertEqual([((1, 1), "blow", 3)], froth.deed(("blow", min(froth.web()), 1, 1)))
        self.assertEqual([23, 22, 21, 20, 19, 18], sorted(froth.web(), reverse=True)[:6])

    def test_a_refused_order_uses_nothing_up(self):
        froth = Froth(1, 2, [9, 4])
        self.assert_refused(BadGas, froth, ("blow", 0, 0, 1))
        self.assert_refused(BadGas, froth, ("part", 0, 9, 9, 1))
        self.assertEqual([(NOW, "blow", 2)], froth.deed(("blow", 0, 1, 1)))
        self.assertEqual(set(range(18)), set(froth.web()))


class FullTest(FrothCase):
    def test_sixty_and_no_more(self):
        froth = filled(59)
        froth.deed(("blow", 0, 1, 1))
        self.assertEqual(list(range(60)), froth.bubbles())
        ends = rim(froth.web(), 5)
        self.assert_refused(Full, froth, ("blow", 0, 1, 1))
        self.assert_refused(Full, froth, ("part", ends[0], ends[2], 1, 60))
        self.assertEqual(360, len(froth.web()))

    def test_sixty_by_parting(self):
        froth = filled(59)
        ends = rim(froth.web(), 5)
        froth.deed(("part", ends[0], ends[2], 1, 60))
        self.assertEqual(60, len(froth.bubbles()))
        self.assert_refused(Full, froth, ("blow", 0, 1, 1))

    def test_what_goes_ahead_of_it(self):
        froth = filled(60)
        web = froth.web()
        ends = rim(web, 5)
        far = [end for end in sorted(web) if end not in ends][0]
        self.assert_refused(NoEnd, froth, ("blow", max(web) + 1, 1, 1))
        self.assert_refused(BadGas, froth, ("blow", 0, 1, 61))
        self.assert_refused(BadGas, froth, ("blow", 0, 0, 1))
        self.assert_refused(NoEnd, froth, ("part", max(web) + 1, 0, 1, 1))
        self.assert_refused(NotOne, froth, ("part", ends[0], far, 1, 1))
        self.assert_refused(SameFilm, froth, ("part", ends[0], ends[0], 1, 1))
        self.assert_refused(BadGas, froth, ("part", ends[0], ends[2], 10 ** 6, 1))
        self.assert_refused(BadGas, froth, ("part", ends[0], ends[2], 1, 0))

    def test_other_orders_are_done(self):
        froth = filled(60)
        froth.deed(("push", 100))
        froth.deed(("pull", 100))
        froth.deed(("burst", 0))
        self.assertEqual([(NOW, "blow", 60)], froth.deed(("blow", min(froth.web()), 1, 1)))
        self.assert_refused(Full, froth, ("blow", min(froth.web()), 1, 1))
        gone = froth.deed(("wait", 1, 1))
        self.assertTrue(gone)
        self.assertEqual("blow", froth.deed(("blow", min(froth.web()), 1, 1))[0][1])


class BadTimeTest(FrothCase):
    def test_bounds(self):
        froth = Froth(1, 2, [9, 4])
        bad = [(-1, 1), (10 ** 11 + 1, 1), (10 ** 11 + 1, 60), (1, 0), (1, -1), (1, 61), (0, 0), (0, 61), (-1, -1)]
        for num, den in bad:
            self.assert_refused(BadTime, froth, ("wait", num, den))
        hour = 0
        for num, den in [(0, 1), (0, 60), (60, 60), (10 ** 11, 1), (1200, 60)]:
            self.assertEqual([], froth.deed(("wait", num, den)))
            hour += num // den
            self.assertEqual((hour, 1), froth.hour())


class NoOrderTest(FrothCase):
    def test_what_is_no_order_of_a_froth(self):
        froth = Froth(1, 2, [9, 4])
        for order in [("begin", 1, 1, 5), ("push",), ("wait", 1), ("pop", 1)]:
            self.assert_refused(NoOrder, froth, order)


class AskingTest(FrothCase):
    def test_no_bubble(self):
        froth = Froth(1, 2, [9, 4])
        for name in (2, -1, -2, 10 ** 12 - 1, 1 - 10 ** 12):
            self.assert_none(NoBubble, froth.gas, name)
            self.assert_none(NoBubble, froth.sides, name)
        froth.deed(("burst", 0))
        self.assert_none(NoBubble, froth.gas, 1)
        self.assert_none(NoBubble, froth.sides, 1)

    def test_no_end(self):
        froth = Froth(1, 2, [9, 4])
        for end in (12, -1, -2, 10 ** 12 - 1, 1 - 10 ** 12):
            self.assert_none(NoEnd, froth.bubble_of, end)
        froth.deed(("burst", 0))
        left = froth.web()
        for end in range(12):
            if end in left:
                self.assertEqual(0, froth.bubble_of(end))
            else:
                self.assert_none(NoEnd, froth.bubble_of, end)

    def test_a_refused_question_changes_nothing(self):
        froth = Froth(1, 2, [9, 4])
        before = asked(froth)
        self.assert_none(NoBubble, froth.gas, 7)
        self.assert_none(NoBubble, froth.ledger, 7)
        self.assert_none(NoEnd, froth.bubble_of, 77)
        self.assertEqual(before, asked(froth))


if __name__ == "__main__":
    unittest.main()
