"""Points 3, 4 and 6, Webs and combs, and what point 31 says of them."""

import unittest

from frothwane.errors import NoEnd
from frothwane.web import comb, corner, corners, other, rim, rims
from tests.helpers import (
    LOOP_CORNERS, LOOP_RIMS, TURNED_LOOP_CORNERS, TURNED_LOOP_RIMS,
    assert_plain, comb_sizes, shuffled, turned_about, web_of,
)

# Among the sizes are one row, one column, a single bubble and the most bubbles of a comb.
SIZES = [(1, 1), (1, 2), (2, 1), (2, 2), (1, 3), (3, 1), (3, 4), (4, 3), (1, 36), (36, 1), (6, 6), (4, 9)]


def some_webs():
    """Webs of each sort: combs, gaps in the numbers, a film back to its own corner, other orders."""
    webs = [comb(rows, cols) for rows, cols in SIZES]
    webs += [web_of(LOOP_CORNERS), web_of(TURNED_LOOP_CORNERS)]
    webs += [turned_about(web) for web in webs] + [shuffled(web) for web in webs]
    return webs


class OtherTest(unittest.TestCase):
    def test_both_ends_of_a_film(self):
        for film in list(range(50)) + [199, 500000, 10 ** 12]:
            with self.subTest(film):
                self.assertEqual(2 * film + 1, other(2 * film))
                self.assertEqual(2 * film, other(2 * film + 1))

    def test_told_are_plain_numbers(self):
        assert_plain(self, [other(end) for end in range(6)])

    def test_by_name(self):
        self.assertEqual(6, other(end=7))


class CornerTest(unittest.TestCase):
    def test_single_bubble(self):
        web = web_of([(0, 2, 4), (1, 3, 5)])
        wanted = [(0, 2, 4), (1, 3, 5), (2, 4, 0), (3, 5, 1), (4, 0, 2), (5, 1, 3)]
        self.assertEqual(wanted, [corner(web, end) for end in range(6)])

    def test_film_back_to_its_own_corner(self):
        web = web_of(LOOP_CORNERS)
        self.assertEqual((19, 40, 41), corner(web, 19))
        self.assertEqual((40, 41, 19), corner(web, 40))
        self.assertEqual((41, 19, 40), corner(web, 41))
        self.assertEqual((41, 40, 19), corner(web_of(TURNED_LOOP_CORNERS), 41))

    def test_from_each_end_on(self):
        for web in some_webs():
            for end in web:
                told = corner(web, end)
                self.assertIs(type(told), tuple)
                self.assertEqual((end, web[end], web[web[end]]), told)

    def test_no_end(self):
        for number in [6, 7, 100, -1, -2, -6, 10 ** 6]:
            with self.subTest(number):
                self.assertRaises(NoEnd, corner, comb(1, 1), number)
        for number in [0, 1, 4, 5, 12, 13, 16, 17, 39, 42, 43, -1, -2]:
            with self.subTest(number):
                self.assertRaises(NoEnd, corner, web_of(LOOP_CORNERS), number)

    def test_by_name(self):
        self.assertEqual((2, 4, 0), corner(end=2, web=comb(1, 1)))


class CornersTest(unittest.TestCase):
    def test_written_out(self):
        self.assertEqual([(0, 2, 4), (1, 3, 5)], corners(web_of([(5, 1, 3), (4, 0, 2)])))
        self.assertEqual([(0, 2, 4), (1, 9, 5), (3, 11, 7), (6, 8, 10)], corners(comb(1, 2)))

    def test_gaps_a_loop_and_another_order(self):
        for wanted in [LOOP_CORNERS, TURNED_LOOP_CORNERS]:
            web = web_of(wanted)
            for found in [web, turned_about(web), shuffled(web)]:
                self.assertEqual(wanted, corners(found))

    def test_each_from_its_least_end_on_and_rising(self):
        for web in some_webs():
            told = corners(web)
            self.assertIs(type(told), list)
            for ends in told:
                self.assertIs(type(ends), tuple)
                self.assertEqual(3, len(ends))
                self.assertEqual(min(ends), ends[0])
                self.assertEqual((web[ends[0]], web[ends[1]], web[ends[2]]), (ends[1], ends[2], ends[0]))
            self.assertEqual(sorted(told), told)
            self.assertEqual(sorted(web), sorted(end for ends in told for end in ends))

    def test_by_name(self):
        self.assertEqual([(0, 2, 4), (1, 3, 5)], corners(web=comb(1, 1)))


class RimTest(unittest.TestCase):
    def test_single_bubble(self):
        web = web_of([(0, 2, 4), (1, 3, 5)])
        self.assertEqual([0, 3, 4, 1, 2, 5], rim(web, 0))
        self.assertEqual([3, 4, 1, 2, 5, 0], rim(web, 3))
        self.assertEqual([5, 0, 3, 4, 1, 2], rim(web, 5))

    def test_two_by_three(self):
        # Bubble 4 is in row 1, column 1: ahead of it is bubble 3, and the row behind it is row 0.
        self.assertEqual([24, 21, 22, 1, 2, 29], rim(comb(2, 3), 24))

    def test_film_back_to_its_own_corner(self):
        self.assertEqual(LOOP_RIMS[0], rim(web_of(LOOP_CORNERS), 2))
        self.assertEqual([19, 11, 2, 9, 10, 14, 3, 8, 15, 18, 40], rim(web_of(LOOP_CORNERS), 19))
        self.assertEqual([41], rim(web_of(LOOP_CORNERS), 41))
        self.assertEqual([40], rim(web_of(TURNED_LOOP_CORNERS), 40))

    def test_behind_each_end_follows_the_next_round_the_other_corner(self):
        for web in some_webs():
            for end in web:
                told = rim(web, end)
                self.assertIs(type(told), list)
                self.assertEqual(end, told[0])
                self.assertEqual(len(set(told)), len(told))
                for at, one in enumerate(told):
                    film, side = divmod(one, 2)
                    self.assertEqual(web[2 * film + 1 - side], told[(at + 1) % len(told)])

    def test_no_end(self):
        for number in [6, 7, 100, -1, -2, -6, 10 ** 6]:
            with self.subTest(number):
                self.assertRaises(NoEnd, rim, comb(1, 1), number)
        for number in [0, 1, 4, 5, 12, 13, 16, 17, 39, 42, 43, -1, -2]:
            with self.subTest(number):
                self.assertRaises(NoEnd, rim, web_of(LOOP_CORNERS), number)

    def test_by_name(self):
        self.assertEqual([2, 5, 0, 3, 4, 1], rim(end=2, web=comb(1, 1)))


class RimsTest(unittest.TestCase):
    def test_written_out(self):
        self.assertEqual([[0, 3, 4, 1, 2, 5]], rims(web_of([(5, 1, 3), (4, 0, 2)])))
        self.assertEqual([[0, 9, 10, 7, 8, 5], [1, 2, 11, 6, 3, 4]], rims(comb(1, 2)))
        self.assertEqual([[0, 3, 4, 7, 8, 5], [1, 2, 11, 6, 9, 10]], rims(comb(2, 1)))

    def test_gaps_a_loop_and_another_order(self):
        for rows, wanted in [(LOOP_CORNERS, LOOP_RIMS), (TURNED_LOOP_CORNERS, TURNED_LOOP_RIMS)]:
            web = web_of(rows)
            for found in [web, turned_about(web), shuffled(web)]:
                self.assertEqual(wanted, rims(found))

    def test_each_end_lies_on_just_one_rim(self):
        for web in some_webs():
            told = rims(web)
            self.assertEqual(sorted(web), sorted(end for ends in told for end in ends))

    def test_each_from_its_least_end_on_and_rising(self):
        for web in some_webs():
            told = rims(web)
            self.assertIs(type(told), list)
            for ends in told:
                self.assertIs(type(ends), list)
                self.assertEqual(min(ends), ends[0])
                self.assertEqual(rim(web, ends[0]), ends)
            self.assertEqual(sorted(told), told)

    def test_half_as_many_rims_as_corners(self):
        for web in some_webs():
            self.assertEqual(len(corners(web)), 2 * len(rims(web)))

    def test_by_name(self):
        self.assertEqual([[0, 3, 4, 1, 2, 5]], rims(web=comb(1, 1)))


class CombTest(unittest.TestCase):
    def test_written_out(self):
        rows = [
            (1, 1, [(0, 2, 4), (1, 3, 5)]),
            (1, 2, [(0, 2, 4), (6, 8, 10), (1, 9, 5), (7, 3, 11)]),
            (2, 1, [(0, 2, 4), (6, 8, 10), (1, 3, 11), (7, 9, 5)]),
            (1, 3, [(0, 2, 4), (6, 8, 10), (12, 14, 16), (1, 15, 5), (7, 3, 11), (13, 9, 17)]),
            (3, 1, [(0, 2, 4), (6, 8, 10), (12, 14, 16), (1, 3, 17), (7, 9, 5), (13, 15, 11)]),
            (2, 3, [(0, 2, 4), (6, 8, 10), (12, 14, 16), (18, 20, 22), (24, 26, 28), (30, 32, 34),
                    (1, 15, 23), (7, 3, 29), (13, 9, 35), (19, 33, 5), (25, 21, 11), (31, 27, 17)]),
        ]
        for many, cols, wanted in rows:
            with self.subTest((many, cols)):
                self.assertEqual(web_of(wanted), comb(many, cols))

    def test_three_by_four(self):
        ahead_of_column = [3, 0, 1, 2, 7, 4, 5, 6, 11, 8, 9, 10]
        ahead_of_row = [8, 9, 10, 11, 0, 1, 2, 3, 4, 5, 6, 7]
        web = comb(3, 4)
        self.assertEqual(list(range(72)), sorted(web))
        for k in range(12):
            self.assertEqual((6 * k, 6 * k + 2, 6 * k + 4), corner(web, 6 * k))
            wanted = (6 * k + 1, 6 * ahead_of_column[k] + 3, 6 * ahead_of_row[k] + 5)
            self.assertEqual(wanted, corner(web, 6 * k + 1))

    def test_each_size_end_by_end(self):
        for rows, cols in comb_sizes():
            with self.subTest((rows, cols)):
                wanted = []
                for i in range(rows):
                    for j in range(cols):
                        k = i * cols + j
                        m = k - 1 if j > 0 else k + cols - 1
                        n = k - cols if i > 0 else k + (rows - 1) * cols
                        wanted += [(6 * k, 6 * k + 2, 6 * k + 4), (6 * k + 1, 6 * m + 3, 6 * n + 5)]
                told = comb(rows, cols)
                self.assertIs(type(told), dict)
                self.assertEqual(web_of(wanted), told)

    def test_as_many_rims_as_bubbles_each_of_six_ends(self):
        for rows, cols in comb_sizes():
            with self.subTest((rows, cols)):
                self.assertEqual([6] * (rows * cols), [len(ends) for ends in rims(comb(rows, cols))])

    def test_each_bubble_by_the_end_6k(self):
        for rows, cols in comb_sizes():
            with self.subTest((rows, cols)):
                web = comb(rows, cols)
                for k in range(rows * cols):
                    self.assertEqual([6 * k], [end for end in rim(web, 6 * k) if end % 6 == 0])

    def test_somewhat_beyond_the_most_bubbles_is_no_error(self):
        self.assertEqual(42, len(rims(comb(6, 7))))

    def test_by_name(self):
        self.assertEqual(comb(2, 3), comb(cols=3, rows=2))


class HandedInAndToldTest(unittest.TestCase):
    def test_what_was_handed_in_is_as_it_was(self):
        for web in some_webs():
            listed = list(web.items())
            end = min(web)
            corner(web, end)
            corners(web)
            rim(web, end)
            rims(web)
            self.assertRaises(NoEnd, corner, web, -1)
            self.assertRaises(NoEnd, rim, web, -1)
            self.assertEqual(listed, list(web.items()))

    def test_a_told_comb_may_be_changed(self):
        told = comb(2, 3)
        before = dict(told)
        told[0] = 4
        del told[7]
        self.assertEqual(before, comb(2, 3))
        told.clear()
        self.assertEqual(before, comb(2, 3))

    def test_told_lists_may_be_changed(self):
        for web in [comb(2, 3), web_of(LOOP_CORNERS)]:
            listed = list(web.items())
            end = max(web)
            for ask in [lambda: corners(web), lambda: rims(web), lambda: rim(web, end)]:
                before = ask()
                told = ask()
                told.reverse()
                told.pop()
                self.assertEqual(before, ask())
            before = rims(web)
            told = rims(web)
            for ends in told:
                ends.clear()
            self.assertEqual(before, rims(web))
            self.assertEqual(listed, list(web.items()))

    def test_a_rim_that_is_told_is_changed_alone(self):
        web = comb(2, 2)
        told = rims(web)
        kept = [list(ends) for ends in told]
        told[0].append(99)
        self.assertEqual(kept[1:], told[1:])
        self.assertEqual(kept[0], rim(web, kept[0][0]))

    def test_a_web_that_was_asked_may_be_changed(self):
        web = web_of([(0, 2, 4), (1, 3, 5)])
        told = (corner(web, 0), corners(web), rim(web, 0), rims(web))
        web[0], web[2], web[4] = 4, 0, 2
        web[99] = 99
        self.assertEqual(((0, 2, 4), [(0, 2, 4), (1, 3, 5)], [0, 3, 4, 1, 2, 5], [[0, 3, 4, 1, 2, 5]]), told)

    def test_a_web_that_was_changed_is_asked_anew(self):
        web = web_of(LOOP_CORNERS)
        self.assertEqual(LOOP_RIMS, rims(web))
        web[19], web[41], web[40] = 41, 40, 19
        self.assertEqual(TURNED_LOOP_CORNERS, corners(web))
        self.assertEqual(TURNED_LOOP_RIMS, rims(web))
        self.assertEqual([40], rim(web, 40))

    def test_told_are_plain_numbers(self):
        for web in [comb(1, 1), comb(1, 2), comb(2, 1), comb(3, 4), web_of(LOOP_CORNERS)]:
            assert_plain(self, web)
            assert_plain(self, corners(web))
            assert_plain(self, rims(web))
            for end in web:
                assert_plain(self, corner(web, end))
                assert_plain(self, rim(web, end))


if __name__ == "__main__":
    unittest.main()
