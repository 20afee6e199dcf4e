"""Points 20 to 23: pictures, tellings, partings, and faults of tellings."""

import copy
import unittest

from frothwane.alike import partings, telling, telling_fault
from frothwane.froth import Froth
from tests.deeds import corner_at, some_webs
from tests.frothcase import FrothCase, done, filled, many_done, thrown_order
from tests.helpers import Dice, assert_plain, walked_rims, web_of
from tests.model import comb_corners

ONE = (1, 1)


def picture_of(web, gas_of_rim):
    """The picture of a web, the gas of each rim told by a function of its ends."""
    corners = sorted({min(corner_at(web, one) for one in corner_at(web, end)) for end in web})
    return (corners, [(ends[0], gas_of_rim(ends)) for ends in walked_rims(web)])


def like_gas(web):
    """The picture of a web whose bubbles have all the same gas."""
    return picture_of(web, lambda ends: ONE)


def web_in(picture):
    return web_of(picture[0])


def gas_in(picture):
    """The gas of the bubble of each end."""
    web = web_in(picture)
    gases = dict(picture[1])
    return {end: gases[ends[0]] for ends in walked_rims(web) for end in ends}


def renumbered(picture, dice):
    """The same picture with other numbers, and the dict that leads its ends to the new ones."""
    web = web_in(picture)
    films = sorted({end // 2 for end in web})
    numbers = list(range(3 * len(films)))
    lead = {}
    for film in films:
        fresh = numbers.pop(dice.roll(len(numbers)))
        turn = dice.roll(2)
        lead[2 * film] = 2 * fresh + turn
        lead[2 * film + 1] = 2 * fresh + 1 - turn
    gases = {lead[end]: gas for end, gas in gas_in(picture).items()}
    return picture_of({lead[end]: lead[web[end]] for end in web}, lambda ends: gases[ends[0]]), lead


def walked(web, end, path):
    """Where a path leads from an end, by the words of point 22."""
    for sign in path:
        end = end ^ 1 if sign == "o" else web[end]
    return end


def led_from(one, other, start, goal):
    """Where all ends are led if one is led so, or None where that is no telling."""
    here, there = web_in(one), web_in(other)
    lead = {}
    waiting = [(start, goal)]
    while waiting:
        end, far = waiting.pop()
        if end in lead:
            if lead[end] != far:
                return None
        else:
            lead[end] = far
            waiting += [(end ^ 1, far ^ 1), (here[end], there[far])]
    if sorted(lead.values()) != sorted(there):
        return None
    gases, far_gases = gas_in(one), gas_in(other)
    return lead if all(gases[end] == far_gases[lead[end]] for end in lead) else None


def wanted_telling(one, other):
    """The telling of point 21, or None."""
    for goal in sorted(web_in(other)):
        lead = led_from(one, other, min(web_in(one)), goal)
        if lead is not None:
            return sorted(lead.items())
    return None


def thrown_pictures(many):
    """Pictures of froths behind thrown orders."""
    found = []
    for seed in range(many):
        dice = Dice(seed)
        froth = Froth(1 + seed % 3, 1 + seed % 2, [1 + dice.roll(2) for name in range((1 + seed % 3) * (1 + seed % 2))])
        for turn in range(3 + seed % 9):
            web = froth.web()
            try:
                froth.deed(thrown_order(dice, web, {end: froth.bubble_of(end) for end in web}))
            except ValueError:
                pass
        found.append(froth.picture())
    return found


class PictureTest(unittest.TestCase):
    def test_written_out(self):
        froth = done(1, 2, [10, 4], [("push", 1), ("wait", 1, 1)])
        corners = [(0, 11, 2), (1, 9, 5), (3, 7, 4), (6, 8, 10)]
        self.assertEqual((corners, [(0, (12, 1)), (1, (2, 1))]), froth.picture())

    def test_gaps_in_the_numbers(self):
        froth = done(1, 2, [10, 4], [("push", 1), ("wait", 2, 1)])
        self.assertEqual(([(2, 6, 5), (3, 7, 4)], [(2, (14, 1))]), froth.picture())

    def test_names_and_hours_are_not_in_it(self):
        one = Froth(1, 2, [10, 4])
        two = done(1, 2, [10, 4], [("wait", 5, 1)])
        self.assertEqual(one.picture(), two.picture())
        # The new bubble has another name in each of them.
        three = done(1, 2, [10, 4], [("blow", 0, 1, 1), ("wait", 1, 1)])
        for froth in (one, three):
            froth.deed(("blow", min(froth.web()), 5, 1))
        self.assertEqual([[0, 1, 2], [0, 1, 3]], [one.bubbles(), three.bubbles()])
        self.assertEqual(3, len(three.picture()[1]))
        for picture in (one.picture(), three.picture()):
            self.assertEqual({2}, {len(row) for row in picture[1]})

    def test_by_the_words_of_point_20(self):
        for froth in (many_done(), filled(60), Froth(1, 1, [3]), Froth(3, 4, list(range(1, 13)))):
            web = froth.web()
            wanted = picture_of(web, lambda ends: froth.gas(froth.bubble_of(ends[0])))
            self.assertEqual(wanted, froth.picture())


class LikenessCase(FrothCase):
    def assert_telling(self, one, other):
        """Alike, and told is the right telling."""
        told = telling(one, other)
        self.assertEqual(wanted_telling(one, other), told)
        self.assertIsNotNone(told)
        self.assertIs(list, type(told))
        self.assertEqual({tuple}, {type(row) for row in told})
        assert_plain(self, told)
        self.assertIsNone(partings(one, other))
        self.assertIsNone(telling_fault(one, other, told))
        self.assertIsNone(telling_fault(one, other, told[::-1]))

    def assert_parted(self, one, other):
        """Not alike, and each path shows it."""
        self.assertIsNone(telling(one, other))
        here, there = web_in(one), web_in(other)
        gases, far_gases = gas_in(one), gas_in(other)
        start = min(here)
        told = partings(one, other)
        self.assertIs(list, type(told))
        self.assertEqual(sorted(there), [row[0] for row in told])
        for row in told:
            self.assertIs(tuple, type(row))
            goal, path = row
            self.assertIs(int, type(goal))
            self.assertIs(str, type(path))
            self.assertEqual(set(), set(path) - {"o", "t"})
            end, far = walked(here, start, path), walked(there, goal, path)
            shown = (end == start) != (far == goal) or gases[end] != far_gases[far]
            self.assertTrue(shown, (goal, path))


    def assert_likeness(self, one, other):
        """Alike or not as the second telling of point 21 has it, and told rightly."""
        if wanted_telling(one, other) is None:
            self.assert_parted(one, other)
        else:
            self.assert_telling(one, other)


class TellingTest(LikenessCase):
    def test_written_out(self):
        # Each end of the comb of one bubble can be led to each other one; 0 is led to itself.
        picture = Froth(1, 1, [5]).picture()
        self.assertEqual([(end, end) for end in range(6)], telling(picture, picture))
        other = ([(3, 8, 14), (2, 9, 15)], [(2, (5, 1))])
        # 0 to 2, the least end; so 1 to 3, 2 to 9, 4 to 15, 3 to 8, 5 to 14.
        self.assertEqual([(0, 2), (1, 3), (2, 9), (3, 8), (4, 15), (5, 14)], telling(picture, other))
        self.assertEqual([(2, 0), (3, 1), (8, 3), (9, 2), (14, 5), (15, 4)], telling(other, picture))

    def test_gas_decides(self):
        one = Froth(1, 2, [10, 4]).picture()
        two = Froth(1, 2, [4, 10]).picture()
        told = dict(telling(one, two))
        self.assertEqual(1, told[0])
        self.assert_telling(one, two)
        self.assert_telling(two, one)
        self.assert_parted(one, Froth(1, 2, [10, 5]).picture())
        self.assert_parted(one, Froth(1, 2, [10, 10]).picture())
        self.assert_parted(Froth(1, 2, [10, 10]).picture(), one)

    def test_renumbered_pictures(self):
        dice = Dice(3)
        for picture in thrown_pictures(24) + [many_done().picture()]:
            other, lead = renumbered(picture, dice)
            self.assertIsNone(telling_fault(picture, other, sorted(lead.items())))
            self.assert_telling(picture, other)
            self.assert_telling(other, picture)
            self.assert_telling(picture, picture)

    def test_the_least_end_to_the_least_that_it_can_be_led_to(self):
        # In a comb with like gas each end can be led to many ends, with as many rows as columns to each.
        dice = Dice(5)
        for rows, cols in [(1, 1), (1, 3), (2, 2), (2, 3), (3, 3)]:
            picture = like_gas(web_of(comb_corners(rows, cols)))
            other, lead = renumbered(picture, dice)
            self.assert_telling(picture, other)
            if rows == cols:
                self.assertEqual((0, min(web_in(other))), telling(picture, other)[0])

    def test_webs_of_each_sort(self):
        dice = Dice(9)
        for web in some_webs()[::4]:
            picture = like_gas(web)
            self.assert_telling(picture, renumbered(picture, dice)[0])
            by_sides = picture_of(web, lambda ends: (len(ends), 1))
            self.assert_telling(by_sides, renumbered(by_sides, dice)[0])

    def test_sixty_bubbles(self):
        froth = filled(60)
        picture = froth.picture()
        other, lead = renumbered(picture, Dice(4))
        self.assert_telling(picture, other)

    def test_a_push_and_a_pull(self):
        froth = done(2, 3, [5] * 6, [("push", 4)])
        other = done(2, 3, [5] * 6, [("pull", 4)])
        # They differ by the numbers of the ends of film 4 alone.
        self.assertNotEqual(froth.picture(), other.picture())
        self.assert_telling(froth.picture(), other.picture())


class PartingsTest(LikenessCase):
    def test_like_webs_with_unlike_gas(self):
        picture = Froth(1, 1, [5]).picture()
        other = Froth(1, 1, [6]).picture()
        self.assert_parted(picture, other)
        self.assert_parted(Froth(2, 3, [5, 5, 5, 5, 5, 6]).picture(), Froth(2, 3, [5, 5, 5, 5, 5, 7]).picture())
        self.assert_parted(Froth(2, 3, [5, 5, 5, 5, 6, 6]).picture(), Froth(2, 3, [5, 6, 5, 5, 5, 6]).picture())

    def test_combs_of_unlike_sizes_with_like_gas(self):
        # Some of them lie several times over in others, so that only coming home tells them apart.
        pictures = [like_gas(web_of(comb_corners(rows, cols))) for rows, cols in
                    [(1, 1), (1, 2), (2, 1), (1, 3), (2, 2), (1, 4), (4, 1), (2, 3), (1, 6), (2, 4), (6, 6)]]
        for at, one in enumerate(pictures):
            for place, other in enumerate(pictures):
                if len(one[0]) != len(other[0]):
                    self.assert_parted(one, other)
                elif at == place:
                    self.assert_telling(one, other)

    def test_combs_of_the_same_size(self):
        for sizes in ([(1, 6), (2, 3), (3, 2), (6, 1)], [(1, 4), (2, 2), (4, 1)], [(1, 8), (2, 4)]):
            pictures = [like_gas(web_of(comb_corners(rows, cols))) for rows, cols in sizes]
            for one in pictures:
                for other in pictures:
                    self.assert_likeness(one, other)
        wide, square = [like_gas(web_of(comb_corners(rows, cols))) for rows, cols in [(1, 4), (2, 2)]]
        self.assert_parted(wide, square)

    def test_mirrored(self):
        # In its mirror image a froth has the same bubbles, each with the same neighbours, but in the other order round.
        for orders in ([], [("push", 0)], [("blow", 0, 7, 2)]):
            picture = done(3, 3, [1, 2, 3, 4, 5, 6, 7, 8, 9], orders).picture()
            web, gases = web_in(picture), gas_in(picture)
            mirror = {web[end]: end for end in web}
            self.assert_parted(picture, picture_of(mirror, lambda ends: gases[ends[0] ^ 1]))
            twice = {mirror[end]: end for end in mirror}
            self.assert_telling(picture, picture_of(twice, lambda ends: gases[ends[0]]))

    def test_thrown_pictures(self):
        pictures = thrown_pictures(18)
        for one in pictures:
            for other in pictures:
                self.assert_likeness(one, other)

    def test_webs_with_like_gas(self):
        pictures = [like_gas(web) for web in some_webs()[::5]]
        for one in pictures:
            for other in pictures:
                self.assert_likeness(one, other)

    def test_sixty_bubbles(self):
        froth = filled(60)
        other = froth.twin()
        other.deed(("push", 107))
        self.assert_parted(froth.picture(), other.picture())
        self.assert_parted(like_gas(froth.web()), like_gas(other.web()))
        self.assert_parted(like_gas(froth.web()), Froth(1, 1, [1]).picture())
        self.assert_parted(Froth(1, 1, [1]).picture(), like_gas(froth.web()))


class FaultTest(LikenessCase):
    def setUp(self):
        self.one = Froth(1, 2, [10, 4]).picture()
        self.other = Froth(1, 2, [4, 10]).picture()
        self.pairs = telling(self.one, self.other)

    def fault(self, pairs):
        kept = list(pairs)
        told = telling_fault(self.one, self.other, pairs)
        self.assertEqual(kept, pairs)
        if told is not None:
            self.assertIs(tuple, type(told))
            self.assertIs(int, type(told[1]))
        return told

    def changed(self, place, row):
        pairs = list(self.pairs)
        pairs[place] = row
        return pairs

    def test_none(self):
        self.assertIsNone(self.fault(self.pairs))
        for turn in range(12):
            self.assertIsNone(self.fault(self.pairs[turn:] + self.pairs[:turn]))
        # Another telling than the one that is told: the least end is led to another end.
        for goal in sorted(web_in(self.other)):
            lead = led_from(self.one, self.other, 0, goal)
            if lead is not None:
                self.assertIsNone(self.fault(sorted(lead.items())))

    def test_many(self):
        self.assertEqual(("many", 11), self.fault(self.pairs[1:]))
        self.assertEqual(("many", 13), self.fault(self.pairs + [(12, 12)]))
        self.assertEqual(("many", 13), self.fault(self.pairs + [self.pairs[0]]))
        self.assertEqual(("many", 0), self.fault([]))
        self.assertEqual(("many", 2), self.fault([(99, 99), (99, 99)]))
        small = Froth(1, 1, [10]).picture()
        # As many as the one picture has ends, and as many as the other has.
        self.assertEqual(("many", 12), telling_fault(self.one, small, self.pairs))
        self.assertEqual(("many", 12), telling_fault(small, self.one, self.pairs))
        self.assertEqual(("many", 6), telling_fault(self.one, small, self.pairs[:6]))
        self.assertEqual(("many", 6), telling_fault(small, self.one, self.pairs[:6]))

    def test_stranger(self):
        for place in (0, 5, 11):
            first, second = self.pairs[place]
            self.assertEqual(("stranger", place), self.fault(self.changed(place, (12, second))))
            self.assertEqual(("stranger", place), self.fault(self.changed(place, (first, 12))))
            self.assertEqual(("stranger", place), self.fault(self.changed(place, (10 ** 6, 10 ** 6))))

    def test_ends_of_the_one_are_no_ends_of_the_other(self):
        dice = Dice(8)
        other, lead = renumbered(self.one, dice)
        pairs = sorted(lead.items())
        self.assertIsNone(telling_fault(self.one, other, pairs))
        self.assertEqual("stranger", telling_fault(other, self.one, pairs)[0])

    def test_twice(self):
        self.assertEqual(("twice", 4), self.fault(self.changed(4, (self.pairs[1][0], self.pairs[4][1]))))
        self.assertEqual(("twice", 4), self.fault(self.changed(4, (self.pairs[4][0], self.pairs[1][1]))))
        self.assertEqual(("twice", 11), self.fault(self.changed(11, self.pairs[0])))
        # The later one of the two is it.
        self.assertEqual(("twice", 4), self.fault(self.changed(1, (self.pairs[4][0], self.pairs[1][1]))))

    def test_other(self):
        # Two seconds changed for one another.
        pairs = list(self.pairs)
        pairs[3], pairs[6] = (pairs[3][0], pairs[6][1]), (pairs[6][0], pairs[3][1])
        self.assertEqual(("other", 2), self.fault(pairs))
        self.assertEqual(("other", 0), self.fault(pairs[2:] + pairs[:2]))

    def test_next(self):
        # Whole films changed for one another: each other end is led right.
        lead = dict(self.pairs)
        lead[0], lead[2] = lead[2], lead[0]
        lead[1], lead[3] = lead[3], lead[1]
        pairs = sorted(lead.items())
        self.assertEqual(("next", 0), self.fault(pairs))
        # 6, 8 and 10 stand at one corner, none of which was changed.
        order = [6, 8, 10, 0, 1, 2, 3, 4, 5, 7, 9, 11]
        self.assertEqual(("next", 3), self.fault([(end, lead[end]) for end in order]))

    def test_gas(self):
        # Each end to itself is a telling but for the gas.
        pairs = [(end, end) for end in range(12)]
        self.assertEqual(("gas", 0), self.fault(pairs))
        three = Froth(1, 3, [5, 6, 7]).picture()
        more = Froth(1, 3, [5, 6, 8]).picture()
        self.assertEqual(("gas", 7), telling_fault(three, more, [(end, end) for end in range(18)]))
        self.assertEqual(("gas", 0), telling_fault(three, more, [(end, end) for end in range(17, -1, -1)]))

    def test_which_goes_first(self):
        # Stranger and twice by the pair: an earlier twice goes ahead of a later stranger.
        pairs = list(self.pairs)
        pairs[2] = pairs[0]
        pairs[5] = (99, 99)
        self.assertEqual(("twice", 2), self.fault(pairs))
        pairs = list(self.pairs)
        pairs[5] = (99, 99)
        pairs[7] = pairs[0]
        self.assertEqual(("stranger", 5), self.fault(pairs))
        # Of one pair the stranger goes ahead of the twice.
        self.assertEqual(("stranger", 5), self.fault(self.changed(5, (99, self.pairs[0][1]))))
        self.assertEqual(("stranger", 5), self.fault(self.changed(5, (self.pairs[0][0], 99))))
        # A stranger or a twice anywhere goes ahead of an other, a next and a gas.
        pairs = [(end, end) for end in range(12)]
        pairs[11] = (11, 0)
        self.assertEqual(("twice", 11), self.fault(pairs))
        pairs[11] = (11, 99)
        self.assertEqual(("stranger", 11), self.fault(pairs))

    def test_which_goes_first_of_other_next_and_gas(self):
        # By the pair: the gas of an earlier one goes ahead of an other of a later one.
        pairs = [(end, end) for end in range(12)]
        pairs[6], pairs[9] = (6, 9), (9, 6)
        self.assertEqual(("gas", 0), self.fault(pairs))
        # Of one pair the other goes ahead of the next, the next ahead of the gas.
        pairs = [(end, end) for end in range(12)]
        pairs[0], pairs[2] = (0, 2), (2, 0)
        self.assertEqual(("other", 0), self.fault(pairs))
        pairs[1], pairs[3] = (1, 3), (3, 1)
        self.assertEqual(("next", 0), self.fault(pairs))

    def test_all_pairs_by_the_words_of_point_23(self):
        dice = Dice(21)
        seen = {}
        for picture in thrown_pictures(12):
            other, lead = renumbered(picture, dice)
            for turn in range(25):
                pairs = sorted(lead.items())
                for count in range(dice.roll(3)):
                    place = dice.roll(len(pairs))
                    pairs[place] = (dice.pick(pairs)[0], pairs[place][1])
                    if dice.roll(2):
                        place, far = dice.roll(len(pairs)), dice.roll(len(pairs))
                        pairs[place], pairs[far] = (pairs[place][0], pairs[far][1]), (pairs[far][0], pairs[place][1])
                told = telling_fault(picture, other, pairs)
                self.assertEqual(fault_by_words(picture, other, pairs), told)
                seen[told and told[0]] = True
        self.assertEqual({None, "twice", "other"}, set(seen) & {None, "twice", "other"})


def fault_by_words(one, other, pairs):
    """Point 23 once more."""
    here, there = web_in(one), web_in(other)
    if not len(pairs) == len(here) == len(there):
        return ("many", len(pairs))
    for k, (x, y) in enumerate(pairs):
        if x not in here or y not in there:
            return ("stranger", k)
        if x in [row[0] for row in pairs[:k]] or y in [row[1] for row in pairs[:k]]:
            return ("twice", k)
    for k, (x, y) in enumerate(pairs):
        if (x ^ 1, y ^ 1) not in pairs:
            return ("other", k)
        if (here[x], there[y]) not in pairs:
            return ("next", k)
        if gas_in(one)[x] != gas_in(other)[y]:
            return ("gas", k)
    return None


class HandedInTest(LikenessCase):
    def test_nothing_handed_in_is_changed(self):
        one, other = many_done().picture(), Froth(1, 2, [3, 4]).picture()
        pairs = [(end, end) for end in range(12)]
        before = copy.deepcopy((one, other, pairs))
        for left, right in [(one, other), (other, one), (one, one), (other, other)]:
            telling(left, right)
            partings(left, right)
            telling_fault(left, right, pairs)
        self.assertEqual(before, (one, other, pairs))

    def test_told_lists_may_be_changed(self):
        one, other = many_done().picture(), Froth(1, 2, [3, 4]).picture()
        for call, left, right in [(telling, one, one), (partings, one, other)]:
            told = call(left, right)
            kept = list(told)
            told.clear()
            self.assertEqual(kept, call(left, right))

    def test_by_the_names_of_the_arguments(self):
        one = Froth(1, 1, [3]).picture()
        self.assertEqual(telling(one, one), telling(one=one, other=one))
        self.assertIsNone(partings(one=one, other=one))
        self.assertEqual(("many", 0), telling_fault(one=one, other=one, pairs=[]))


if __name__ == "__main__":
    unittest.main()
