"""Points 24 and 25: neighbours and roads."""

import unittest

from frothwane.errors import NoEnd
from frothwane.roads import far, neighbours, road
from frothwane.web import comb
from tests.deeds import some_webs, thrown_webs
from tests.frothcase import filled, many_done
from tests.helpers import (
    LOOP_CORNERS, TURNED_LOOP_CORNERS, assert_plain, shifted, shuffled, turned_about, walked_rims, web_of,
)

# The rims of comb(1, 2) are [0, 9, 10, 7, 8, 5] and [1, 2, 11, 6, 3, 4]; films 1 and 4 have one bubble on both hands.
PAIR = [(0, 2, 4), (6, 8, 10), (1, 9, 5), (7, 3, 11)]


def all_webs():
    webs = some_webs() + [comb(rows, cols) for rows, cols in [(1, 3), (1, 7), (2, 2), (3, 3), (4, 5), (7, 1)]]
    webs += [shuffled(web) for web in webs[-3:]] + [turned_about(web) for web in webs[-3:]]
    return webs + [many_done().web(), filled(40).web()]


def rim_of(web):
    """The place of each end's rim in the list of rims."""
    return {end: at for at, ends in enumerate(walked_rims(web)) for end in ends}


def steps_between(web):
    """The fewest films from each rim to each other one, by going over all pairs again and again."""
    place = rim_of(web)
    many = max(place.values()) + 1
    steps = [[0 if one == two else many for two in range(many)] for one in range(many)]
    for end in web:
        if place[end] != place[end ^ 1]:
            steps[place[end]][place[end ^ 1]] = 1
    for mid in range(many):
        for one in range(many):
            for two in range(many):
                steps[one][two] = min(steps[one][two], steps[one][mid] + steps[mid][two])
    return steps


class NeighboursTest(unittest.TestCase):
    def test_comb_written_out(self):
        # The rim of bubble 0 of comb(3, 3) is [0, 15, 16, 31, 32, 5]; six bubbles lie round it.
        web = comb(3, 3)
        place = rim_of(web)
        round_it = sorted({min(walked_rims(web)[place[end]]) for end in (1, 14, 17, 30, 33, 4)})
        self.assertEqual(6, len(round_it))
        for end in (0, 15, 16, 31, 32, 5):
            self.assertEqual([(one, 1) for one in round_it], neighbours(web, end))

    def test_by_several_sides_and_of_its_own(self):
        web = web_of(PAIR)
        for end in (0, 9, 10, 7, 8, 5):
            self.assertEqual([(0, 2), (1, 4)], neighbours(web, end))
        for end in (1, 2, 11, 6, 3, 4):
            self.assertEqual([(0, 4), (1, 2)], neighbours(web, end))

    def test_one_bubble(self):
        for end in range(6):
            self.assertEqual([(0, 6)], neighbours(web_of([(0, 2, 4), (1, 3, 5)]), end))

    def test_film_back_to_its_own_corner(self):
        # Film 20 parts the bubble of the end 41 from the other one; all other films have that one on both hands.
        for end in (2, 9, 10, 14, 3, 8, 15, 18, 40, 19, 11):
            self.assertEqual([(2, 10), (41, 1)], neighbours(web_of(LOOP_CORNERS), end))
        self.assertEqual([(2, 1)], neighbours(web_of(LOOP_CORNERS), 41))
        self.assertEqual([(2, 1)], neighbours(web_of(TURNED_LOOP_CORNERS), 40))
        self.assertEqual([(2, 10), (40, 1)], neighbours(web_of(TURNED_LOOP_CORNERS), 41))

    def test_gaps_in_the_numbers(self):
        self.assertEqual([(1000, 2), (1001, 4)], neighbours(shifted(web_of(PAIR), 500), 1005))

    def test_by_the_words_of_point_24(self):
        for web in all_webs():
            place = rim_of(web)
            rows = walked_rims(web)
            for end in web:
                sides = rows[place[end]]
                wanted = {}
                for side in sides:
                    least = rows[place[side ^ 1]][0]
                    wanted[least] = wanted.get(least, 0) + 1
                told = neighbours(web, end)
                self.assertEqual(sorted(wanted.items()), told)
                self.assertEqual(len(sides), sum(films for least, films in told))

    def test_no_end(self):
        for end in (12, -1, -2, 100, 10 ** 6):
            with self.assertRaises(NoEnd) as caught:
                neighbours(web_of(PAIR), end)
            self.assertIs(NoEnd, type(caught.exception))
        with self.assertRaises(NoEnd):
            neighbours(web_of(LOOP_CORNERS), 4)


class RoadTest(unittest.TestCase):
    def assert_road(self, web, one, two, wanted):
        """The road leads from rim to rim, and is as long as it has to be."""
        place = rim_of(web)
        told = road(web, one, two)
        self.assertIs(list, type(told))
        here = place[one]
        for end in told:
            self.assertEqual(here, place[end])
            here = place[end ^ 1]
        self.assertEqual(place[two], here)
        self.assertEqual(wanted, len(told))
        self.assertEqual(wanted, far(web, one, two))

    def test_written_out(self):
        web = comb(1, 7)
        # From bubble 0 to bubble 3: three columns on, or four the other way about.
        self.assertEqual([0, 1, 2, 3, 3, 2, 1], [far(web, 0, 6 * name) for name in range(7)])
        self.assertEqual([], road(web, 0, 5))
        self.assertEqual(1, len(road(web, 0, 1)))
        self.assertIn(road(web_of(LOOP_CORNERS), 2, 41), [[40]])
        self.assertEqual([41], road(web_of(LOOP_CORNERS), 41, 18))

    def test_each_pair_of_rims(self):
        for web in all_webs():
            place = rim_of(web)
            steps = steps_between(web)
            rows = walked_rims(web)
            for ends in rows:
                for others in rows:
                    one, two = ends[-1], others[len(others) // 2]
                    self.assert_road(web, one, two, steps[place[one]][place[two]])

    def test_each_pair_of_ends(self):
        for web in thrown_webs(5, 6) + [web_of(PAIR), web_of(LOOP_CORNERS), comb(2, 3)]:
            place = rim_of(web)
            steps = steps_between(web)
            for one in web:
                for two in web:
                    self.assert_road(web, one, two, steps[place[one]][place[two]])

    def test_empty_within_one_bubble(self):
        for web in all_webs():
            for ends in walked_rims(web):
                for end in ends:
                    self.assertEqual([], road(web, ends[0], end))
                    self.assertEqual(0, far(web, end, ends[0]))

    def test_both_ways(self):
        for web in all_webs():
            rows = walked_rims(web)
            for ends in rows[::3]:
                for others in rows[::2]:
                    self.assertEqual(far(web, ends[0], others[0]), far(web, others[0], ends[0]))

    def test_no_end(self):
        web = web_of(PAIR)
        for end in (12, -1, -2, 100, 10 ** 6):
            for one, two in [(end, 0), (0, end), (end, end)]:
                for call in (road, far):
                    with self.assertRaises(NoEnd) as caught:
                        call(web, one, two)
                    self.assertIs(NoEnd, type(caught.exception))


class HandedInTest(unittest.TestCase):
    def test_nothing_handed_in_is_changed(self):
        for web in all_webs()[::7]:
            before = list(web.items())
            one, two = min(web), max(web)
            neighbours(web, one)
            road(web, one, two)
            far(web, one, two)
            self.assertEqual(before, list(web.items()))

    def test_told_lists_may_be_changed(self):
        web = comb(3, 3)
        for call, rest in [(neighbours, (0,)), (road, (0, 24))]:
            told = call(web, *rest)
            kept = list(told)
            told.append((1, 1))
            told.reverse()
            self.assertEqual(kept, call(web, *rest))

    def test_told_are_plain_numbers(self):
        web = comb(3, 3)
        told = [neighbours(web, 0), road(web, 0, 24), far(web, 0, 24), far(web, 0, 0), road(web, 0, 0)]
        assert_plain(self, told)
        self.assertEqual({tuple}, {type(row) for row in told[0]})

    def test_by_the_names_of_the_arguments(self):
        web = comb(1, 2)
        self.assertEqual([(0, 2), (1, 4)], neighbours(web=web, end=0))
        self.assertEqual([], road(web=web, one=0, two=5))
        self.assertEqual(1, far(web=web, one=0, two=1))


if __name__ == "__main__":
    unittest.main()
