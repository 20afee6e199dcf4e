"""Point 11: the sides of the bubbles behind each deed, and that nothing but a web comes of long rows of deeds."""

import unittest

from frothwane.looker import web_fault
from frothwane.moves import blown, burst, parted, pulled, pushed
from frothwane.web import comb, corners, rims
from tests.deeds import corner_at, films_of, is_looped, on_one_rim, some_webs, thrown_deed
from tests.helpers import Dice, LOOP_CORNERS, TURNED_LOOP_CORNERS, walked_rims, web_of

DEEDS = {"push": pushed, "pull": pulled, "burst": burst, "part": parted, "blow": blown}


def bubbles(web):
    """The place of each end's rim in the list of rims, and the sides of each rim."""
    rows = walked_rims(web)
    return {end: at for at, ends in enumerate(rows) for end in ends}, [len(ends) for ends in rows]


def beyond(web, end):
    """An end on the rim of the bubble beyond an end."""
    return corner_at(web, end)[2]


class SidesCase(unittest.TestCase):
    def assert_sides(self, web, after, wanted, fresh=()):
        """wanted are the sides of the old bubbles, by their places; fresh are ends that may have changed rims.

        Each old bubble is known again by its old ends, of which some are left.
        """
        old, old_sides = bubbles(web)
        new, new_sides = bubbles(after)
        kept = [end for end in after if end in old and end not in fresh]
        self.assertEqual(set(range(len(old_sides))), {old[end] for end in kept})
        for end in kept:
            self.assertEqual(wanted[old[end]], new_sides[new[end]])


class PushAndPullTest(SidesCase):
    def test_a_side_goes_over_from_each_hand_to_each_beyond(self):
        for web in some_webs():
            place, sides = bubbles(web)
            for film in films_of(web):
                if not is_looped(web, film):
                    wanted = list(sides)
                    for end in (2 * film, 2 * film + 1):
                        wanted[place[end]] -= 1
                        wanted[place[beyond(web, end)]] += 1
                    for deed in (pushed, pulled):
                        self.assert_sides(web, deed(web, film), wanted, fresh=(2 * film, 2 * film + 1))

    def test_the_film_parts_the_two_that_were_beyond(self):
        for web in some_webs():
            for film in films_of(web):
                if not is_looped(web, film):
                    beyonds = (beyond(web, 2 * film), beyond(web, 2 * film + 1))
                    after, _ = bubbles(pushed(web, film))
                    self.assertEqual((after[beyonds[1]], after[beyonds[0]]), (after[2 * film], after[2 * film + 1]))
                    after, _ = bubbles(pulled(web, film))
                    self.assertEqual((after[beyonds[0]], after[beyonds[1]]), (after[2 * film], after[2 * film + 1]))

    def test_written_out(self):
        # In comb(3, 3) film 0 has bubbles 0 and 7 on its hands; those with the ends 4 and 41 are beyond its ends.
        after = pushed(comb(3, 3), 0)
        self.assertEqual([5, 5, 6, 6, 6, 6, 6, 7, 7], sorted(len(ends) for ends in rims(after)))
        self.assertEqual([5, 5], [len(ends) for ends in rims(after) if 15 in ends or 2 in ends])
        self.assertEqual([7, 7], [len(ends) for ends in rims(after) if 0 in ends or 1 in ends])


class BurstTest(SidesCase):
    def test_the_sides_of_both_less_four_and_one_less_beyond_each_end(self):
        for web in some_webs():
            place, sides = bubbles(web)
            for film in films_of(web):
                low, high = 2 * film, 2 * film + 1
                if place[low] != place[high] and not is_looped(web, film):
                    one, two = place[low], place[high]
                    joined = sides[one] + sides[two] - 4
                    wanted = list(sides)
                    for end in (low, high):
                        gives = place[beyond(web, end)]
                        if gives in (one, two):
                            joined -= 1
                        else:
                            wanted[gives] -= 1
                    wanted[one] = wanted[two] = joined
                    after = burst(web, film)
                    # One of the two may have lost all its ends to the one that comes of them.
                    new, new_sides = bubbles(after)
                    for end in after:
                        self.assertEqual(wanted[place[end]], new_sides[new[end]])
                    self.assertEqual(len(sides) - 1, len(new_sides))

    def test_a_film_that_leads_back_to_its_own_corner(self):
        # The bubble beyond the loop loses the loop, both hands of the film that held it, and one mended side.
        for rows in (LOOP_CORNERS, TURNED_LOOP_CORNERS):
            self.assertEqual([6], [len(ends) for ends in rims(burst(web_of(rows), 20))])

    def test_written_out(self):
        # Bubbles 0 and 7 of comb(3, 3) become one, the two beyond the ends of film 0 lose a side each.
        after = burst(comb(3, 3), 0)
        self.assertEqual([5, 5, 6, 6, 6, 6, 6, 8], sorted(len(ends) for ends in rims(after)))
        self.assertEqual([8], [len(ends) for ends in rims(after) if 15 in ends])


class PartedTest(SidesCase):
    def test_four_sides_more_together_and_one_more_beyond_each_halved_side(self):
        for web in some_webs()[::3]:
            place, sides = bubbles(web)
            first = films_of(web)[-1] + 1
            for one in web:
                for two in web:
                    if place[one] == place[two] and one // 2 != two // 2:
                        wanted = list(sides)
                        wanted[place[one]] += 4
                        for end in (one, two):
                            wanted[place[end ^ 1]] += 1
                        new, new_sides = bubbles(parted(web, one, two, first))
                        self.assertNotEqual(new[one], new[two])
                        self.assertEqual(wanted[place[one]], new_sides[new[one]] + new_sides[new[two]])
                        for end in web:
                            if place[end] != place[one]:
                                self.assertEqual(wanted[place[end]], new_sides[new[end]])
                            else:
                                self.assertIn(new[end], (new[one], new[two]))

    def test_written_out(self):
        # The rim of bubble 0 of comb(3, 3) is [0, 15, 16, 31, 32, 5].
        after = parted(comb(3, 3), 0, 31, 27)
        self.assertEqual([5, 5, 6, 6, 6, 6, 6, 6, 7, 7], sorted(len(ends) for ends in rims(after)))
        after = parted(comb(3, 3), 0, 15, 27)
        self.assertEqual([3, 6, 6, 6, 6, 6, 6, 7, 7, 7], sorted(len(ends) for ends in rims(after)))


class BlownTest(SidesCase):
    def test_one_side_more_for_each_bubble_round_the_corner(self):
        for web in some_webs():
            place, sides = bubbles(web)
            first = films_of(web)[-1] + 1
            for end in web:
                wanted = list(sides)
                for one in corner_at(web, end):
                    wanted[place[one]] += 1
                self.assert_sides(web, blown(web, end, first), wanted)

    def test_written_out(self):
        self.assertEqual([3, 6, 6, 6, 6, 6, 6, 7, 7, 7], sorted(len(ends) for ends in rims(blown(comb(3, 3), 0, 27))))
        # The one bubble is all three round the corner.
        self.assertEqual([3, 9], sorted(len(ends) for ends in rims(blown(comb(1, 1), 0, 3))))


class LongRowsTest(unittest.TestCase):
    def assert_is_web(self, web):
        self.assertIsNone(web_fault(web))
        many = len(rims(web))
        self.assertEqual(2 * many, len(corners(web)))
        self.assertEqual(3 * many, len(films_of(web)))
        self.assertEqual(6 * many, sum(len(ends) for ends in rims(web)))

    def test_thrown_deeds(self):
        seen = {}
        for seed in range(8):
            dice = Dice(seed)
            web = comb(1 + seed % 3, 1 + seed // 3)
            for turn in range(200):
                word, *rest = thrown_deed(web, dice, 14)
                if word == "burst" and is_looped(web, rest[0]):
                    word_seen = "burst loop"
                else:
                    word_seen = word
                seen[word_seen] = seen.get(word_seen, 0) + 1
                web = DEEDS[word](web, *rest)
                self.assert_is_web(web)
        for word in (*DEEDS, "burst loop"):
            self.assertGreater(seen.get(word, 0), 10, word)

    def test_up_to_many_bubbles_and_down_again(self):
        web = comb(2, 2)
        while len(rims(web)) < 60:
            end = max(web) - 3
            web = blown(web, end, films_of(web)[-1] + 1)
            self.assert_is_web(web)
        while len(rims(web)) > 1:
            films = [film for film in films_of(web) if not on_one_rim(web, 2 * film, 2 * film + 1)]
            web = burst(web, films[len(films) // 2])
            self.assert_is_web(web)

    def test_pushes_alone(self):
        web = comb(3, 3)
        dice = Dice(11)
        for turn in range(400):
            film = dice.pick([film for film in films_of(web) if not is_looped(web, film)])
            web = dice.pick([pushed, pulled])(web, film)
            self.assert_is_web(web)
            self.assertEqual(list(range(54)), sorted(web))


if __name__ == "__main__":
    unittest.main()
