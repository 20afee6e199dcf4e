"""Points 7 to 10, the deeds at a web, their refusals by point 16, and what point 31 says of them."""

import unittest

from frothwane.errors import Looped, NoEnd, NoFilm, NotOne, OneBubble, SameFilm
from frothwane.looker import web_fault
from frothwane.moves import blown, burst, parted, pulled, pushed
from frothwane.web import comb, rim
from tests.deeds import (
    blown_by_rims, burst_by_rims, corner_at, films_of, is_looped, on_one_rim, parted_by_rims, pulled_by_rims,
    pushed_by_rims, some_webs,
)
from tests.helpers import (
    LOOP_CORNERS, TURNED_LOOP_CORNERS, assert_plain, shuffled, turned_about, walked_rims, web_of,
)

ONE = [(0, 2, 4), (1, 3, 5)]
# comb(1, 2). Film 1 has the same bubble on both hands, film 0 has not.
PAIR = [(0, 2, 4), (6, 8, 10), (1, 9, 5), (7, 3, 11)]
# Films 4 and 5 shut in a bubble of two sides.
TWO_SIDES = [(0, 2, 6), (7, 8, 11), (4, 10, 9), (1, 3, 5)]
# Film 0 leads back to its own corner and has the small bubble at its lesser end.
INNER_LOOP = [(17, 1, 0), (16, 4, 6), (5, 8, 10), (7, 9, 11)]
# Film 20 leads back to its own corner, held by a film with a number below those that are mended.
LOW_STEM = [(1, 40, 41), (0, 6, 4), (5, 8, 10), (7, 9, 11)]
# Films 10 and 11 lead back to their own corners, and the films that hold them meet at one corner.
TWIN_LOOPS = [(1, 20, 21), (0, 2, 4), (3, 22, 23), (5, 6, 8), (7, 10, 12), (9, 11, 13)]

WRITTEN_OUT = [ONE, PAIR, TWO_SIDES, INNER_LOOP, LOW_STEM, TWIN_LOOPS, LOOP_CORNERS, TURNED_LOOP_CORNERS]


def all_webs():
    return [web_of(rows) for rows in WRITTEN_OUT] + some_webs()


def turning_films():
    """Each web with each film that doesn't lead back to its own corner."""
    return [(web, film) for web in all_webs() for film in films_of(web) if not is_looped(web, film)]


class MovesCase(unittest.TestCase):
    def assert_web(self, wanted, told):
        self.assertIs(type(told), dict)
        self.assertEqual(wanted, told)
        assert_plain(self, told)
        self.assertIsNone(web_fault(told))

    def assert_refused(self, kind, deed, web, *rest):
        """Refused with that very class, and the web is as it was."""
        before = list(web.items())
        with self.assertRaises(kind) as caught:
            deed(web, *rest)
        self.assertIs(kind, type(caught.exception))
        self.assertEqual(before, list(web.items()))


class WrittenOutTest(unittest.TestCase):
    def test_the_webs_of_these_tests_are_webs(self):
        for rows in WRITTEN_OUT:
            self.assertIsNone(web_fault(web_of(rows)), rows)
        self.assertEqual(comb(1, 2), web_of(PAIR))


class PushAndPullTest(MovesCase):
    def test_pushed_written_out(self):
        web = web_of(PAIR)
        self.assert_web(web_of([(0, 4, 9), (1, 5, 2), (6, 8, 10), (7, 3, 11)]), pushed(web, 0))
        self.assert_web(web_of([(2, 0, 11), (3, 7, 4), (6, 8, 10), (1, 9, 5)]), pushed(web, 1))
        self.assert_web(web_of([(10, 8, 7), (11, 3, 6), (0, 2, 4), (1, 9, 5)]), pushed(web, 5))

    def test_pulled_written_out(self):
        web = web_of(PAIR)
        self.assert_web(web_of([(0, 5, 2), (1, 4, 9), (6, 8, 10), (7, 3, 11)]), pulled(web, 0))
        self.assert_web(web_of([(2, 7, 4), (3, 0, 11), (6, 8, 10), (1, 9, 5)]), pulled(web, 1))
        self.assert_web(web_of([(10, 3, 6), (11, 8, 7), (0, 2, 4), (1, 9, 5)]), pulled(web, 5))

    def test_single_bubble(self):
        web = web_of(ONE)
        self.assert_web(web_of([(0, 4, 3), (1, 5, 2)]), pushed(web, 0))
        self.assert_web(web_of([(0, 5, 2), (1, 4, 3)]), pulled(web, 0))
        self.assert_web(web_of([(4, 2, 1), (5, 3, 0)]), pushed(web, 2))

    def test_the_film_that_holds_a_loop(self):
        # Film 9 has the corners (18, 11, 14) and (19, 40, 41).
        web = web_of(LOOP_CORNERS)
        self.assert_web(web_of([(2, 8, 10), (3, 9, 15), (18, 14, 40), (19, 41, 11)]), pushed(web, 9))
        self.assert_web(web_of([(2, 8, 10), (3, 9, 15), (18, 41, 11), (19, 14, 40)]), pulled(web, 9))

    def test_a_side_of_two_becomes_a_loop(self):
        # Film 4 has the corners (8, 11, 7) and (9, 4, 10).
        web = web_of(TWO_SIDES)
        after = pushed(web, 4)
        self.assert_web(web_of([(0, 2, 6), (8, 7, 4), (9, 10, 11), (1, 3, 5)]), after)
        self.assert_refused(Looped, pushed, after, 5)
        after = pulled(web, 4)
        self.assert_web(web_of([(0, 2, 6), (8, 10, 11), (9, 7, 4), (1, 3, 5)]), after)
        self.assert_refused(Looped, pulled, after, 5)

    def test_the_corners_as_they_were(self):
        for web, film in turning_films():
            e, a, b = corner_at(web, 2 * film)
            o, c, d = corner_at(web, 2 * film + 1)
            rest = {end: web[end] for end in web if end not in (e, a, b, o, c, d)}
            self.assert_web({**rest, e: b, b: c, c: e, o: d, d: a, a: o}, pushed(web, film))
            self.assert_web({**rest, e: d, d: a, a: e, o: b, b: c, c: o}, pulled(web, film))

    def test_by_rims(self):
        for web, film in turning_films():
            self.assertEqual(pushed_by_rims(web, film), pushed(web, film))
            self.assertEqual(pulled_by_rims(web, film), pulled(web, film))

    def test_they_take_each_other_back(self):
        for web, film in turning_films():
            self.assertEqual(web, pulled(pushed(web, film), film))
            self.assertEqual(web, pushed(pulled(web, film), film))

    def test_two_pushes_and_four(self):
        for web, film in turning_films():
            changed = {2 * film: 2 * film + 1, 2 * film + 1: 2 * film}
            wanted = {changed.get(end, end): changed.get(web[end], web[end]) for end in web}
            twice = pushed(pushed(web, film), film)
            self.assertEqual(wanted, twice)
            self.assertNotEqual(web, twice)
            self.assertEqual(wanted, pulled(pulled(web, film), film))
            self.assertEqual(web, pushed(pushed(twice, film), film))

    def test_no_film(self):
        for deed in (pushed, pulled):
            for film in (3, 4, 5, 6, 100, 10 ** 6, -1, -2, -3, -100):
                self.assert_refused(NoFilm, deed, web_of(ONE), film)
            for film in (0, 2, 3, 6, 8, 10, 19, 21, 40, 41, 10 ** 12, -1, -7, -20, -10 ** 12):
                self.assert_refused(NoFilm, deed, web_of(LOOP_CORNERS), film)

    def test_looped(self):
        for deed in (pushed, pulled):
            self.assert_refused(Looped, deed, web_of(LOOP_CORNERS), 20)
            self.assert_refused(Looped, deed, web_of(TURNED_LOOP_CORNERS), 20)
            self.assert_refused(Looped, deed, web_of(INNER_LOOP), 0)
            self.assert_refused(Looped, deed, web_of(TWIN_LOOPS), 11)

    def test_each_film_is_either_turned_or_looped(self):
        for web in all_webs():
            for film in films_of(web):
                for deed in (pushed, pulled):
                    if is_looped(web, film):
                        self.assert_refused(Looped, deed, web, film)
                    else:
                        self.assertEqual(sorted(web), sorted(deed(web, film)))

    def test_by_name(self):
        self.assertEqual(pushed(comb(1, 2), 1), pushed(film=1, web=comb(1, 2)))
        self.assertEqual(pulled(comb(1, 2), 1), pulled(film=1, web=comb(1, 2)))


class BurstTest(MovesCase):
    def test_both_corners_are_mended(self):
        # Film 0 has the corners (0, 2, 4) and (1, 15, 41); 5 stood at (19, 33, 5), 40 at (36, 38, 40).
        web = comb(3, 3)
        wanted = {end: web[end] for end in web if end not in (0, 1, 4, 5, 40, 41)}
        wanted.update({19: 33, 33: 2, 2: 19, 36: 38, 38: 15, 15: 36})
        self.assert_web(wanted, burst(web, 0))

    def test_the_lesser_number_is_kept_also_if_it_stands_second(self):
        # Film 4 has the corners (8, 10, 6) and (9, 53, 13); 11 stood at (25, 21, 11), 52 at (48, 50, 52).
        web = comb(3, 3)
        wanted = {end: web[end] for end in web if end not in (8, 9, 10, 11, 52, 53)}
        wanted.update({25: 21, 21: 6, 6: 25, 48: 50, 50: 13, 13: 48})
        self.assert_web(wanted, burst(web, 4))

    def test_corners_that_share_a_film(self):
        # Film 2 leads from the one corner to the other: films 1, 2 and 4 become film 1.
        self.assert_web(web_of([(6, 2, 10), (7, 3, 11)]), burst(web_of(PAIR), 0))
        # The shared film 0 is the one that is kept, in the places of films 1 and 4.
        self.assert_web(web_of([(7, 0, 11), (6, 1, 10)]), burst(web_of(PAIR), 2))
        # What is kept at the first corner, film 3, is lost at the second one to film 2.
        self.assert_web(web_of(ONE), burst(web_of(TWO_SIDES), 4))
        # Film 2 is kept at the first corner and again at the second one.
        self.assert_web(web_of(ONE), burst(web_of(TWO_SIDES), 5))

    def test_a_film_that_leads_back_to_its_own_corner(self):
        wanted = web_of([(2, 8, 10), (3, 9, 11)])
        self.assert_web(wanted, burst(web_of(LOOP_CORNERS), 20))
        self.assert_web(wanted, burst(web_of(TURNED_LOOP_CORNERS), 20))
        wanted = web_of([(5, 8, 10), (4, 9, 11)])
        self.assert_web(wanted, burst(web_of(INNER_LOOP), 0))
        self.assert_web(wanted, burst(web_of(LOW_STEM), 20))

    def test_a_loop_beside_a_loop(self):
        web = web_of(TWIN_LOOPS)
        self.assert_web(web_of([(2, 6, 8), (3, 22, 23), (7, 10, 12), (9, 11, 13)]), burst(web, 10))
        self.assert_web(web_of([(0, 6, 8), (1, 20, 21), (7, 10, 12), (9, 11, 13)]), burst(web, 11))

    def test_by_rims(self):
        seen = {"loop": 0, "shared": 0, "plain": 0}
        for web in all_webs():
            for film in films_of(web):
                if not on_one_rim(web, 2 * film, 2 * film + 1):
                    near = [end // 2 for side in (0, 1) for end in corner_at(web, 2 * film + side)[1:]]
                    kind = "loop" if is_looped(web, film) else "shared" if len(set(near)) < 4 else "plain"
                    seen[kind] += 1
                    self.assert_web(burst_by_rims(web, film), burst(web, film))
        for kind in seen:
            self.assertGreater(seen[kind], 5, kind)

    def test_one_bubble(self):
        for film in (0, 1, 2):
            self.assert_refused(OneBubble, burst, web_of(ONE), film)
        for film in (1, 4):
            self.assert_refused(OneBubble, burst, web_of(PAIR), film)
        for film in (1, 4, 5, 7, 9):
            self.assert_refused(OneBubble, burst, web_of(LOOP_CORNERS), film)

    def test_each_film_bursts_or_has_one_bubble(self):
        for web in all_webs():
            for film in films_of(web):
                if on_one_rim(web, 2 * film, 2 * film + 1):
                    self.assert_refused(OneBubble, burst, web, film)
                else:
                    self.assertEqual(len(web) - 6, len(burst(web, film)))

    def test_no_film(self):
        # In a web of one bubble each film that there is has it on both hands; those that aren't there come first.
        for film in (3, 4, 5, 6, 100, 10 ** 6, -1, -2, -3, -100):
            self.assert_refused(NoFilm, burst, web_of(ONE), film)
        for film in (0, 2, 3, 6, 8, 10, 19, 21, 40, 41, 10 ** 12, -1, -20, -10 ** 12):
            self.assert_refused(NoFilm, burst, web_of(LOOP_CORNERS), film)

    def test_a_film_that_burst_is_no_more(self):
        after = burst(comb(3, 3), 0)
        for film in (0, 2, 20):
            self.assert_refused(NoFilm, burst, after, film)

    def test_down_to_one_bubble(self):
        for web in all_webs():
            while len(web) > 6:
                films = [film for film in films_of(web) if not on_one_rim(web, 2 * film, 2 * film + 1)]
                web = burst(web, films[-1])
                self.assertIsNone(web_fault(web))
            for film in films_of(web):
                self.assert_refused(OneBubble, burst, web, film)

    def test_by_name(self):
        self.assertEqual(burst(comb(1, 2), 0), burst(film=0, web=comb(1, 2)))


class PartedTest(MovesCase):
    def test_sides_next_to_each_other(self):
        # The rim is [0, 3, 4, 1, 2, 5], and the one bubble lies on both hands of each film.
        wanted = web_of([(0, 9, 4), (7, 3, 5), (1, 10, 6), (2, 11, 8)])
        self.assert_web(wanted, parted(web_of(ONE), 0, 3, 3))
        wanted = web_of([(0, 7, 4), (9, 3, 5), (2, 10, 6), (1, 11, 8)])
        self.assert_web(wanted, parted(web_of(ONE), 3, 0, 3))

    def test_sides_far_apart(self):
        wanted = web_of([(0, 2, 4), (7, 9, 5), (1, 10, 6), (3, 11, 8)])
        self.assert_web(wanted, parted(web_of(ONE), 0, 2, 3))
        # The rim is [0, 9, 10, 7, 8, 5].
        wanted = web_of([(0, 2, 4), (6, 8, 10), (13, 9, 5), (7, 3, 15), (1, 16, 12), (11, 17, 14)])
        self.assert_web(wanted, parted(web_of(PAIR), 0, 10, 6))

    def test_sides_of_a_comb(self):
        # In comb(3, 3) the rim is [0, 15, 16, 31, 32, 5]; 1 stood at (1, 15, 41), 30 at (30, 32, 34).
        web = comb(3, 3)
        self.assertEqual([0, 15, 16, 31, 32, 5], rim(web, 0))
        wanted = dict(web)
        wanted.update({55: 15, 15: 41, 41: 55, 1: 58, 58: 54, 54: 1})
        wanted.update({57: 32, 32: 34, 34: 57, 30: 59, 59: 56, 56: 30})
        self.assert_web(wanted, parted(web, 0, 31, 27))

    def test_a_number_far_above_all_films(self):
        wanted = web_of([(0, 103, 4), (101, 3, 5), (1, 104, 100), (2, 105, 102)])
        self.assert_web(wanted, parted(web_of(ONE), 0, 3, 50))

    def test_a_film_that_leads_back_to_its_own_corner(self):
        # The rim is [2, 9, 10, 14, 3, 8, 15, 18, 40, 19, 11].
        wanted = web_of([(2, 8, 10), (45, 9, 15), (11, 14, 18), (19, 40, 43), (41, 46, 42), (3, 47, 44)])
        self.assert_web(wanted, parted(web_of(LOOP_CORNERS), 40, 2, 21))
        wanted = web_of([(2, 8, 10), (43, 9, 15), (11, 14, 18), (19, 40, 45), (3, 46, 42), (41, 47, 44)])
        self.assert_web(wanted, parted(web_of(LOOP_CORNERS), 2, 40, 21))

    def test_by_rims(self):
        for web in all_webs():
            for ahead in (1, 2, 5):
                first = films_of(web)[-1] + ahead
                for ends in walked_rims(web):
                    for one in ends[::ahead]:
                        for two in ends:
                            if one // 2 != two // 2:
                                wanted = parted_by_rims(web, one, two, first)
                                self.assertEqual(wanted, parted(web, one, two, first))

    def test_webs_come_of_it(self):
        for web in all_webs()[::4]:
            for ends in walked_rims(web):
                for one in ends:
                    for two in ends:
                        if one // 2 != two // 2:
                            told = parted(web, one, two, films_of(web)[-1] + 1)
                            self.assert_web(told, told)
                            self.assertEqual(len(web) + 6, len(told))

    def test_the_new_film_bursts_and_the_web_is_as_it_was(self):
        for web in all_webs():
            first = films_of(web)[-1] + 3
            for ends in walked_rims(web):
                for two in ends[1:]:
                    if ends[0] // 2 != two // 2:
                        after = parted(web, ends[0], two, first)
                        self.assertEqual(burst_by_rims(after, first + 2), burst(after, first + 2))
                        self.assertEqual(web, burst(after, first + 2))

    def test_no_end(self):
        for one, two in [(12, 0), (0, 12), (12, 13), (-1, 0), (0, -1), (-2, -1), (0, 10 ** 6), (10 ** 12, 0)]:
            self.assert_refused(NoEnd, parted, web_of(PAIR), one, two, 6)
        for number in (0, 1, 4, 12, 13, 39, 42, 43, -1, -2, -19, -40):
            self.assert_refused(NoEnd, parted, web_of(LOOP_CORNERS), number, 2, 21)
            self.assert_refused(NoEnd, parted, web_of(LOOP_CORNERS), 2, number, 21)

    def test_no_end_ahead_of_same_film(self):
        for one, two in [(12, 12), (12, 13), (13, 12), (-1, -1), (-2, -1)]:
            self.assert_refused(NoEnd, parted, web_of(PAIR), one, two, 6)

    def test_an_end_of_the_new_films_is_none_yet(self):
        for number in range(12, 18):
            self.assert_refused(NoEnd, parted, web_of(PAIR), 0, number, 6)
            self.assert_refused(NoEnd, parted, web_of(PAIR), number, 0, 6)

    def test_not_one(self):
        for one in (0, 9, 10, 7, 8, 5):
            for two in (1, 2, 11, 6, 3, 4):
                self.assert_refused(NotOne, parted, web_of(PAIR), one, two, 6)
                self.assert_refused(NotOne, parted, web_of(PAIR), two, one, 6)
        for two in (2, 18, 19):
            self.assert_refused(NotOne, parted, web_of(LOOP_CORNERS), 41, two, 21)

    def test_not_one_ahead_of_same_film(self):
        for one, two in [(0, 1), (1, 0), (4, 5), (11, 10)]:
            self.assert_refused(NotOne, parted, web_of(PAIR), one, two, 6)
        self.assert_refused(NotOne, parted, web_of(LOOP_CORNERS), 40, 41, 21)
        self.assert_refused(NotOne, parted, web_of(LOOP_CORNERS), 41, 40, 21)

    def test_same_film(self):
        for one, two in [(0, 1), (1, 0), (2, 3), (5, 4)]:
            self.assert_refused(SameFilm, parted, web_of(ONE), one, two, 3)
        self.assert_refused(SameFilm, parted, web_of(PAIR), 2, 3, 6)
        self.assert_refused(SameFilm, parted, web_of(LOOP_CORNERS), 18, 19, 21)

    def test_the_same_end_twice(self):
        for rows in WRITTEN_OUT:
            web = web_of(rows)
            for end in web:
                self.assert_refused(SameFilm, parted, web, end, end, films_of(web)[-1] + 1)

    def test_which_refusal_for_any_two_ends(self):
        for web in all_webs()[:12]:
            first = films_of(web)[-1] + 1
            for one in web:
                for two in web:
                    if not on_one_rim(web, one, two):
                        self.assert_refused(NotOne, parted, web, one, two, first)
                    elif one // 2 == two // 2:
                        self.assert_refused(SameFilm, parted, web, one, two, first)

    def test_by_name(self):
        self.assertEqual(parted(comb(1, 1), 0, 3, 4), parted(first=4, two=3, one=0, web=comb(1, 1)))


class BlownTest(MovesCase):
    def test_written_out(self):
        self.assert_web(web_of([(0, 6, 11), (2, 8, 7), (4, 10, 9), (1, 3, 5)]), blown(web_of(ONE), 0, 3))
        self.assert_web(web_of([(2, 6, 11), (4, 8, 7), (0, 10, 9), (1, 3, 5)]), blown(web_of(ONE), 2, 3))
        wanted = web_of([(9, 12, 17), (5, 14, 13), (1, 16, 15), (0, 2, 4), (6, 8, 10), (7, 3, 11)])
        self.assert_web(wanted, blown(web_of(PAIR), 9, 6))

    def test_a_number_far_above_all_films(self):
        self.assert_web(web_of([(3, 20, 25), (5, 22, 21), (1, 24, 23), (0, 2, 4)]), blown(web_of(ONE), 3, 10))

    def test_where_a_film_leads_back(self):
        rest = [(2, 8, 10), (3, 9, 15), (11, 14, 18)]
        web = web_of(LOOP_CORNERS)
        self.assert_web(web_of(rest + [(19, 42, 47), (40, 44, 43), (41, 46, 45)]), blown(web, 19, 21))
        self.assert_web(web_of(rest + [(40, 42, 47), (41, 44, 43), (19, 46, 45)]), blown(web, 40, 21))
        self.assert_web(web_of(rest + [(41, 42, 47), (19, 44, 43), (40, 46, 45)]), blown(web, 41, 21))

    def test_each_end(self):
        for web in all_webs():
            for ahead in (1, 4):
                first = films_of(web)[-1] + ahead
                new = 2 * first
                for end in web:
                    e, a, b = corner_at(web, end)
                    made = [(e, new, new + 5), (a, new + 2, new + 1), (b, new + 4, new + 3)]
                    told = blown(web, end, first)
                    self.assertEqual({**web, **web_of(made)}, told)
                    self.assertEqual(blown_by_rims(web, end, first), told)

    def test_a_new_rim_of_three_ends(self):
        for web in all_webs():
            first = films_of(web)[-1] + 2
            for end in web:
                told = blown(web, end, first)
                self.assertEqual([2 * first + 1, 2 * first + 5, 2 * first + 3], rim(told, 2 * first + 1))
                self.assert_web(told, told)

    def test_no_end(self):
        for number in (6, 7, 8, 100, 10 ** 6, -1, -2, -6, -10 ** 12):
            self.assert_refused(NoEnd, blown, web_of(ONE), number, 3)
        for number in (0, 1, 4, 12, 13, 39, 42, 43, -1, -2, -19, -40):
            self.assert_refused(NoEnd, blown, web_of(LOOP_CORNERS), number, 21)

    def test_by_name(self):
        self.assertEqual(blown(comb(1, 1), 2, 4), blown(first=4, end=2, web=comb(1, 1)))


CALLS = [
    lambda web: pushed(web, 0), lambda web: pulled(web, 0), lambda web: burst(web, 0),
    lambda web: parted(web, 0, 10, 6), lambda web: blown(web, 0, 6),
]


class HandedInAndToldTest(unittest.TestCase):
    def test_what_was_handed_in_is_as_it_was(self):
        for found in (comb(1, 2), turned_about(comb(1, 2)), shuffled(comb(1, 2))):
            for call in CALLS:
                web = dict(found)
                told = call(web)
                self.assertIsNot(web, told)
                self.assertEqual(list(found.items()), list(web.items()))

    def test_a_film_that_leads_back_bursts_in_a_new_web(self):
        web = web_of(LOOP_CORNERS)
        burst(web, 20)
        self.assertEqual(list(web_of(LOOP_CORNERS).items()), list(web.items()))

    def test_the_order_of_the_dict_is_free(self):
        for call in CALLS:
            wanted = call(comb(1, 2))
            self.assertEqual(wanted, call(turned_about(comb(1, 2))))
            self.assertEqual(wanted, call(shuffled(comb(1, 2))))
        for found in (turned_about(web_of(LOOP_CORNERS)), shuffled(web_of(LOOP_CORNERS))):
            self.assertEqual(burst(web_of(LOOP_CORNERS), 20), burst(found, 20))

    def test_a_told_web_may_be_changed(self):
        for call in CALLS:
            web = comb(1, 2)
            before = dict(call(web))
            told = call(web)
            told[6] = 999
            del told[7]
            self.assertEqual(before, call(web))
            told.clear()
            self.assertEqual(before, call(web))
            self.assertEqual(comb(1, 2), web)

    def test_a_web_that_was_handed_in_may_be_changed(self):
        for call in CALLS:
            web = comb(1, 2)
            told = call(web)
            before = dict(told)
            web[6] = 999
            del web[7]
            self.assertEqual(before, told)
            self.assertEqual(before, call(comb(1, 2)))

    def test_told_are_plain_numbers(self):
        for call in CALLS:
            assert_plain(self, call(comb(1, 2)))
        assert_plain(self, pushed(comb(1, 1), 1))


if __name__ == "__main__":
    unittest.main()
