"""What the tests of froths need: froths of each sort, thrown orders, and checks of refusals."""

import unittest

from frothwane.froth import Froth
from tests.helpers import assert_plain
from tests.model import asked

# A web with a film that leads back to its own corner comes of these, at a froth of one bubble: film 5 is it.
LOOP_ORDERS = [("blow", 0, 1, 1), ("push", 3), ("push", 4)]

# Deeds of each kind and two goings; six bubbles are left of nine names.
MANY_ORDERS = [
    ("blow", 0, 1, 2), ("push", 4), ("wait", 1, 12), ("part", 0, 15, 3, 4), ("pull", 7), ("wait", 9, 2),
    ("burst", 2), ("blow", 31, 7, 3), ("wait", 1, 60),
]


def done(rows, cols, gases, orders):
    """A froth to which these orders were done."""
    froth = Froth(rows, cols, gases)
    for order in orders:
        froth.deed(order)
    return froth


def many_done():
    return done(2, 3, [5, 6, 7, 8, 9, 10], MANY_ORDERS)


def filled(many):
    """A froth of so many bubbles, from 36 on, each of the later ones with the gas 1/2."""
    froth = Froth(6, 6, [9] * 36)
    while len(froth.bubbles()) < many:
        froth.deed(("blow", 6 * len(froth.bubbles()) % 216, 1, 2))
    return froth


def thrown_order(dice, web, owners):
    """An order that may well be refused, for a web and the names of the bubbles of its ends."""
    end = dice.pick(sorted(web))
    film = dice.pick(sorted(web)) // 2
    word = dice.pick(["push", "push", "pull", "burst", "part", "part", "blow", "blow", "wait", "wait", "wait"])
    gas = (1 + dice.roll(12), 1 + dice.roll(6))
    if word in ("push", "pull", "burst"):
        return (word, film)
    if word == "part":
        fellows = [one for one in sorted(web) if owners[one] == owners[end]]
        return (word, end, dice.pick(fellows), *gas)
    if word == "blow":
        return (word, end, *gas)
    return (word, dice.roll(9), 1 + dice.roll(8))


class FrothCase(unittest.TestCase):
    def assert_refused(self, kind, froth, order):
        """Refused with that very class, and all that can be asked is as it was."""
        before = asked(froth)
        numbers = self.next_numbers(froth)
        with self.assertRaises(kind) as caught:
            froth.deed(order)
        self.assertIs(kind, type(caught.exception))
        self.assertEqual(before, asked(froth))
        # Neither names nor numbers of films were used up.
        self.assertEqual(numbers, self.next_numbers(froth))

    def next_numbers(self, froth):
        """The name and the films that a blowing would give, asked of a twin, or None where there is no room."""
        twin = froth.twin()
        if len(twin.bubbles()) == 60:
            return None
        before = twin.web()
        rows = twin.deed(("blow", min(before), 1, 1))
        return (rows[0][2], sorted(set(twin.web()) - set(before)))

    def assert_none(self, kind, call, *rest):
        """The call refuses with that very class."""
        with self.assertRaises(kind) as caught:
            call(*rest)
        self.assertIs(kind, type(caught.exception))

    def assert_same_froth(self, one, two):
        """All that can be asked of both is the same."""
        here, there = asked(one), asked(two)
        for key in here:
            self.assertEqual(here[key], there[key], key)
        self.assertEqual(self.next_numbers(one), self.next_numbers(two))

    def assert_told_plainly(self, told):
        """As assert_plain, but the words of rows aside."""
        if type(told) in (list, tuple):
            for part in told:
                self.assert_told_plainly(part)
        elif type(told) is not str and told is not None:
            assert_plain(self, told)
