"""Point 5, the faults of a dict that may be no web, and what point 31 says of looking for them."""

import unittest

from frothwane.looker import web_fault
from frothwane.moves import blown, burst, parted, pulled, pushed
from frothwane.web import comb, corners, rim
from tests.helpers import (
    Dice, LOOP_CORNERS, TURNED_LOOP_CORNERS, assert_plain, comb_sizes, shifted, shuffled, turned_about,
    walked_rims, web_of,
)

# Two corners, three films and three rims: a froth on a ball.
BALL = [(0, 2, 4), (1, 5, 3)]
# Two films that lead back to their own corners with a stem between them: on a ball, too.
BELLS = [(0, 1, 2), (3, 4, 5)]
# Four corners and four rims, the ribs of a pyramid.
PYRAMID = [(0, 4, 2), (1, 6, 9), (3, 11, 7), (5, 8, 10)]
# Six corners, but one rim: a froth on a ring with two holes.
TWO_HOLES = [(0, 4, 2), (6, 8, 10), (12, 14, 16), (1, 7, 13), (3, 9, 15), (5, 11, 17)]


def plain_fault(found):
    """The first fault by the words of point 5, written without the program's help."""
    if found == {}:
        return ("none", 0)
    ends = sorted(found)
    for end in ends:
        if (end ^ 1) not in ends:
            return ("lone", end)
    for end in ends:
        if found[end] not in ends:
            return ("astray", end)
    for end in ends:
        if found[end] == end or found[found[found[end]]] != end:
            return ("corner", end)
    group = {end: {end} for end in ends}
    for end in ends:
        for near in (end ^ 1, found[end]):
            if group[near] is not group[end]:
                both = group[near] | group[end]
                for one in both:
                    group[one] = both
    for end in ends:
        if end not in group[ends[0]]:
            return ("apart", end)
    many = len(walked_rims(found))
    if 2 * many != len(ends) // 3:
        return ("glasses", many)
    return None


def orders(found):
    """A dict in three orders of its keys."""
    return [found, turned_about(found), shuffled(found)]


class LookerCase(unittest.TestCase):
    def assert_fault(self, wanted, found):
        for listed in orders(found):
            before = list(listed.items())
            told = web_fault(listed)
            self.assertEqual(wanted, told)
            self.assertEqual(before, list(listed.items()))
            if wanted is None:
                self.assertIsNone(told)
            else:
                self.assertIs(type(told), tuple)
                self.assertIs(type(told[0]), str)
                assert_plain(self, told[1])


class EachKindTest(LookerCase):
    def test_none(self):
        self.assert_fault(("none", 0), {})

    def test_lone(self):
        self.assert_fault(("lone", 0), {0: 0})
        self.assert_fault(("lone", 1), {1: 1})
        self.assert_fault(("lone", 7), {7: 9, 9: 11, 11: 7})
        # 1 and 2 stand side by side but are of two films.
        self.assert_fault(("lone", 1), {1: 2, 2: 1})
        for gone in range(12):
            web = comb(1, 2)
            del web[gone]
            self.assert_fault(("lone", gone ^ 1), web)

    def test_lone_the_least_end_of_several(self):
        web = comb(2, 2)
        for gone in (22, 7, 13):
            del web[gone]
        self.assert_fault(("lone", 6), web)
        self.assert_fault(("lone", 4), {8: 4, 10: 8, 4: 10})

    def test_astray(self):
        for end in range(12):
            for strange in (12, 13, 99, 10 ** 6):
                web = comb(1, 2)
                web[end] = strange
                self.assert_fault(("astray", end), web)
        self.assert_fault(("astray", 0), {0: 2, 1: 2})
        self.assert_fault(("astray", 1), {0: 1, 1: 2})

    def test_astray_into_a_gap(self):
        web = web_of(LOOP_CORNERS)
        web[9] = 12
        self.assert_fault(("astray", 9), web)

    def test_astray_the_least_end_of_several(self):
        web = comb(2, 2)
        web[17], web[8], web[20] = 24, 30, 99
        self.assert_fault(("astray", 8), web)

    def test_corner_an_end_that_leads_to_itself(self):
        self.assert_fault(("corner", 0), {0: 0, 1: 1})
        web = comb(1, 1)
        web.update({6: 6, 7: 7})
        self.assert_fault(("corner", 6), web)

    def test_corner_of_two_ends(self):
        self.assert_fault(("corner", 4), {4: 5, 5: 4})

    def test_corner_of_six_ends(self):
        self.assert_fault(("corner", 0), {0: 2, 2: 4, 4: 1, 1: 3, 3: 5, 5: 0})

    def test_corner_of_four_ends(self):
        self.assert_fault(("corner", 10), {10: 12, 12: 13, 13: 11, 11: 10})

    def test_corner_two_ends_that_lead_to_one(self):
        web = comb(1, 2)
        # The corner (6, 8, 10) is led past 8; from 6 and 10 one no longer comes round by three steps.
        web[6] = 10
        self.assertEqual(("corner", 6), plain_fault(web))
        self.assert_fault(("corner", 6), web)

    def test_corner_only_far_ends_are_wrong(self):
        # The ends from 0 to 5 stand at two right corners; 6 and 7 lead into them, but nothing leads back.
        web = comb(1, 1)
        web.update({6: 0, 7: 3})
        self.assert_fault(("corner", 6), web)

    def test_corner_the_least_end_of_several(self):
        web = comb(2, 2)
        # Two corners whose ends are led across: (6, 8, 10) and (12, 14, 16).
        web[10], web[16] = 12, 6
        self.assert_fault(("corner", 6), web)

    def test_apart(self):
        self.assert_fault(("apart", 6), {**comb(1, 1), **shifted(comb(1, 1), 3)})
        self.assert_fault(("apart", 100), {**comb(1, 2), **shifted(comb(2, 3), 50)})
        self.assert_fault(("apart", 72), {**comb(3, 4), **shifted(comb(1, 1), 36)})

    def test_apart_among_one_another(self):
        one = web_of([(0, 8, 12), (1, 9, 13)])
        two = web_of([(4, 6, 10), (5, 7, 11)])
        self.assert_fault(("apart", 4), {**one, **two})
        self.assert_fault(("apart", 4), {**two, **one})

    def test_apart_the_least_one_of_three_webs(self):
        self.assert_fault(("apart", 8), {**shifted(comb(1, 1), 20), **shifted(comb(1, 1), 4), **comb_with_gap()})

    def test_glasses(self):
        self.assert_fault(("glasses", 3), web_of(BALL))
        self.assert_fault(("glasses", 3), web_of(BELLS))
        self.assert_fault(("glasses", 4), web_of(PYRAMID))
        self.assert_fault(("glasses", 1), web_of(TWO_HOLES))

    def test_glasses_with_corners_turned_about(self):
        # The number told is that of the rims, be there too few of them or too many.
        for rows, cols, wanted in [(1, 2, {None, 4}), (1, 3, {None, 5}), (2, 2, {None, 2, 6})]:
            faults = set()
            listed = corners(comb(rows, cols))
            for mask in range(2 ** len(listed)):
                turned = [ends[::-1] if mask >> at & 1 else ends for at, ends in enumerate(listed)]
                web = web_of(turned)
                many = len(walked_rims(web))
                fault = None if many == rows * cols else many
                faults.add(fault)
                self.assertEqual(None if fault is None else ("glasses", fault), web_fault(web))
            self.assertEqual(wanted, faults)


def comb_with_gap():
    """The web of one bubble with a gap in the numbers of its films."""
    return web_of([(0, 4, 30), (1, 5, 31)])


class WhichGoesFirstTest(LookerCase):
    def test_lone_ahead_of_all_that_follow(self):
        web = comb(1, 2)
        del web[11]
        # 7 leads to 11, which is no key now.
        self.assert_fault(("lone", 10), web)
        web = comb(1, 2)
        web[0] = 99
        web[2] = 2
        web[20] = 20
        self.assert_fault(("lone", 20), web)

    def test_lone_ahead_of_apart_and_glasses(self):
        self.assert_fault(("lone", 40), {**web_of(BALL), **shifted(web_of(BALL), 10), 40: 0})

    def test_astray_ahead_of_corner(self):
        web = comb(1, 2)
        web[0] = 0
        web[11] = 12
        self.assert_fault(("astray", 11), web)

    def test_astray_ahead_of_apart_and_glasses(self):
        web = {**web_of(BALL), **shifted(web_of(BALL), 10)}
        web[25] = 26
        self.assert_fault(("astray", 25), web)

    def test_corner_ahead_of_apart(self):
        web = {**comb(1, 1), **shifted(comb(1, 1), 10)}
        web[24] = 24
        self.assert_fault(("corner", 20), web)
        web = {**comb(1, 1), **shifted(comb(1, 1), 10), 40: 41, 41: 40}
        self.assert_fault(("corner", 40), web)

    def test_corner_ahead_of_glasses(self):
        self.assert_fault(("corner", 8), {**web_of(BALL), 8: 9, 9: 8})

    def test_apart_ahead_of_glasses(self):
        self.assert_fault(("apart", 20), {**web_of(BALL), **shifted(web_of(BALL), 10)})
        self.assert_fault(("apart", 20), {**comb(1, 1), **shifted(web_of(BALL), 10)})
        self.assert_fault(("apart", 40), {**web_of(TWO_HOLES), **shifted(web_of(BALL), 20)})

    def test_apart_where_the_rims_are_half_as_many_as_the_corners(self):
        both = {**web_of(TWO_HOLES), **shifted(web_of(BELLS), 20)}
        self.assertEqual(8, 2 * len(walked_rims(both)))
        self.assert_fault(("apart", 40), both)


class NoFaultTest(LookerCase):
    def test_combs(self):
        for rows, cols in comb_sizes():
            with self.subTest((rows, cols)):
                self.assert_fault(None, comb(rows, cols))

    def test_gaps_and_films_back_to_their_own_corners(self):
        self.assert_fault(None, web_of(LOOP_CORNERS))
        self.assert_fault(None, web_of(TURNED_LOOP_CORNERS))
        self.assert_fault(None, comb_with_gap())
        self.assert_fault(None, shifted(comb(2, 3), 1000))
        self.assert_fault(None, shifted(comb(6, 6), 499000))

    def test_webs_behind_deeds(self):
        web = comb(2, 2)
        for film in (0, 5, 7, 2, 0):
            web = pushed(web, film)
            self.assert_fault(None, web)
        web = pulled(web, 3)
        self.assert_fault(None, web)
        web = blown(web, 6, 40)
        self.assert_fault(None, web)
        ends = rim(web, 81)
        web = parted(web, ends[0], ends[2], 60)
        self.assert_fault(None, web)
        web = burst(web, 41)
        self.assert_fault(None, web)

    def test_somewhat_more_than_four_hundred_ends(self):
        self.assert_fault(None, comb(9, 8))

    def test_by_name(self):
        self.assertIsNone(web_fault(found=comb(1, 1)))
        self.assertEqual(("none", 0), web_fault(found={}))


def spoiled(web, dice):
    """The web with one change that may make it none."""
    found = dict(web)
    ends = sorted(found)
    one = dice.pick(ends)
    two = dice.pick(ends)
    way = dice.roll(6)
    if way == 0:
        del found[one]
    elif way == 1:
        found[one] = dice.roll(2 * max(ends))
    elif way == 2:
        found[one], found[two] = found[two], found[one]
    elif way == 3:
        found[one] = one
    elif way == 4:
        found[2 * dice.roll(max(ends))] = one
    else:
        # The corner of one end turned about is a corner still.
        second = found[one]
        third = found.get(second, one)
        found.update({one: third, third: second, second: one})
    return found


class ManyDictsTest(LookerCase):
    def test_spoiled_webs(self):
        dice = Dice(5)
        webs = [comb(1, 1), comb(1, 2), comb(2, 2), web_of(LOOP_CORNERS), web_of(PYRAMID), web_of(TWO_HOLES),
                {**comb(1, 1), **shifted(comb(1, 2), 9)}]
        kinds = {}
        for turn in range(4000):
            found = dice.pick(webs)
            for change in range(1 + dice.roll(3)):
                if found:
                    found = spoiled(found, dice)
            wanted = plain_fault(found)
            self.assertEqual(wanted, web_fault(found), found)
            kind = None if wanted is None else wanted[0]
            kinds[kind] = kinds.get(kind, 0) + 1
        for kind in (None, "lone", "astray", "corner", "apart", "glasses"):
            self.assertGreater(kinds.get(kind, 0), 20, kind)

    def test_each_dict_of_two_films_with_steps_among_them(self):
        for number in range(5 ** 4):
            found = {end: number // 5 ** end % 5 for end in range(4)}
            self.assertEqual(plain_fault(found), web_fault(found), found)


class HandedInTest(unittest.TestCase):
    def test_a_dict_that_was_asked_may_be_changed(self):
        found = comb(1, 2)
        self.assertIsNone(web_fault(found))
        found[3] = 50
        self.assertEqual(("astray", 3), web_fault(found))
        del found[5]
        self.assertEqual(("lone", 4), web_fault(found))
        found.clear()
        self.assertEqual(("none", 0), web_fault(found))
        found.update(comb(1, 1))
        self.assertIsNone(web_fault(found))


if __name__ == "__main__":
    unittest.main()
