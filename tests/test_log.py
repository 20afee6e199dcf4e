"""Points 28 and 29: logs, and logs of texts."""

import unittest

from frothwane.errors import (
    BadBegin, BadGas, BadTime, FrothError, Full, Looped, NoBack, NoEnd, NoFilm, NoForth, NoOrder, NoStand, NotOne,
    OneBubble, SameFilm,
)
from frothwane.froth import Froth
from frothwane.log import Log, log_of
from frothwane.words import shown
from tests.frothcase import LOOP_ORDERS, MANY_ORDERS, FrothCase, done, thrown_order
from tests.helpers import Dice
from tests.model import asked

GASES = [5, 6, 7, 8, 9, 10]
BEGIN = "begin 2 3 5 6 7 8 9 10"


def many_logged():
    log = Log(2, 3, GASES)
    for order in MANY_ORDERS:
        log.deed(order)
    return log


def all_of(log):
    """All that can be asked of a log."""
    stands = []
    while True:
        try:
            stands.append(asked(log.at(len(stands))))
        except NoStand:
            return (log.stand(), log.told(), asked(log.froth()), stands)


class LogCase(FrothCase):
    def assert_unchanged(self, log, kind, call, *rest):
        """Refused with that very class, and all that can be asked of the log is as it was, `forth` too."""
        before = all_of(log)
        self.assert_none(kind, call, *rest)
        self.assertEqual(before, all_of(log))


class BeginTest(LogCase):
    def test_written_out(self):
        log = Log(2, 3, GASES)
        self.assertEqual(0, log.stand())
        self.assertEqual([BEGIN], log.told())
        self.assert_same_froth(Froth(2, 3, GASES), log.froth())
        self.assert_same_froth(Froth(2, 3, GASES), log.at(0))
        self.assert_unchanged(log, NoBack, log.back)
        self.assert_unchanged(log, NoForth, log.forth)
        self.assert_unchanged(log, NoStand, log.at, 1)

    def test_bad_begins(self):
        for rows, cols, gases in [(0, 1, [5]), (1, 0, [5]), (-1, -1, [5]), (1, 37, [5] * 37), (1, 2, [5]), (1, 1, []),
                                  (1, 1, [0]), (1, 1, [10 ** 6 + 1]), (10 ** 12 - 1, 1 - 10 ** 12, [5])]:
            self.assert_none(BadBegin, Log, rows, cols, gases)

    def test_gases_changed_behind_the_call(self):
        gases = [10, 4]
        log = Log(1, 2, gases)
        gases[0] = 3
        gases.append(1)
        log.deed(("push", 1))
        log.back()
        self.assertEqual(["begin 1 2 10 4"], log.told())
        self.assertEqual((10, 1), log.froth().gas(0))

    def test_by_the_names_of_the_arguments(self):
        log = Log(rows=1, cols=2, gases=[10, 4])
        log.deed(order=("push", 1))
        self.assertEqual([], log.at(stand=0).book())
        self.assertEqual(log.told(), log_of(lines=log.told()).told())


class StandsTest(LogCase):
    def test_rows_are_those_of_the_froth(self):
        log, froth = Log(2, 3, GASES), Froth(2, 3, GASES)
        for at, order in enumerate(MANY_ORDERS, start=1):
            self.assertEqual(froth.deed(order), log.deed(order))
            self.assertEqual(at, log.stand())
            self.assert_same_froth(froth, log.froth())

    def test_back_and_forth(self):
        log = many_logged()
        many = len(MANY_ORDERS)
        stands = [done(2, 3, GASES, MANY_ORDERS[:at]) for at in range(many + 1)]
        self.assert_none(NoForth, log.forth)
        for at in range(many - 1, -1, -1):
            self.assertEqual(at, log.back())
            self.assertEqual(at, log.stand())
            self.assert_same_froth(stands[at], log.froth())
            self.assertEqual([BEGIN] + [shown(order) for order in MANY_ORDERS[:at]], log.told())
        self.assert_unchanged(log, NoBack, log.back)
        for at in range(1, many + 1):
            self.assertEqual(at, log.forth())
            self.assertEqual(at, log.stand())
            self.assert_same_froth(stands[at], log.froth())
            self.assertEqual([BEGIN] + [shown(order) for order in MANY_ORDERS[:at]], log.told())
        self.assert_unchanged(log, NoForth, log.forth)

    def test_each_stand_asked(self):
        log = many_logged()
        many = len(MANY_ORDERS)
        for turn in range(3):
            for at in range(many + 1):
                self.assert_same_froth(done(2, 3, GASES, MANY_ORDERS[:at]), log.at(at))
            for stand in (-1, -2, many + 1, many + 2, 10 ** 12):
                self.assert_none(NoStand, log.at, stand)
            # Those taken back are asked, too.
            log.back()
            log.back()

    def test_an_order_drops_all_that_were_taken_back(self):
        log = many_logged()
        for turn in range(3):
            log.back()
        stand = log.stand()
        kept = [asked(log.at(at)) for at in range(stand + 1)]
        log.deed(("wait", 1, 7))
        self.assertEqual(stand + 1, log.stand())
        self.assertEqual(kept, [asked(log.at(at)) for at in range(stand + 1)])
        self.assert_same_froth(done(2, 3, GASES, [*MANY_ORDERS[:stand], ("wait", 1, 7)]), log.at(stand + 1))
        self.assert_unchanged(log, NoStand, log.at, stand + 2)
        self.assert_unchanged(log, NoForth, log.forth)
        self.assertEqual("wait 1 7", log.told()[-1])
        self.assertEqual(stand, log.back())
        self.assertEqual(stand + 1, log.forth())

    def test_the_same_order_drops_them_too(self):
        log = many_logged()
        log.back()
        log.back()
        log.deed(MANY_ORDERS[-2])
        self.assert_none(NoForth, log.forth)
        self.assertEqual(len(MANY_ORDERS) - 1, log.stand())

    def test_a_refused_order_drops_nothing(self):
        log = many_logged()
        self.assert_unchanged(log, NoFilm, log.deed, ("push", 999))
        log.back()
        log.back()
        for kind, order in [(NoFilm, ("push", 999)), (NoEnd, ("blow", 999, 1, 1)), (BadGas, ("blow", 0, 0, 1)),
                            (BadTime, ("wait", -1, 1)), (SameFilm, ("part", 0, 0, 1, 1))]:
            self.assert_unchanged(log, kind, log.deed, order)
        self.assertEqual(len(MANY_ORDERS) - 1, log.forth())
        self.assertEqual(len(MANY_ORDERS), log.forth())
        self.assert_same_froth(done(2, 3, GASES, MANY_ORDERS), log.froth())

    def test_a_wait_in_which_nobody_goes_is_an_order_done(self):
        log = Log(1, 2, [10, 4])
        self.assertEqual([], log.deed(("wait", 0, 1)))
        self.assertEqual(1, log.stand())
        self.assertEqual(["begin 1 2 10 4", "wait 0 1"], log.told())

    def test_thrown(self):
        for seed in range(6):
            dice = Dice(seed)
            log = Log(1, 3, [4, 5, 6])
            orders, taken = [], []
            for turn in range(80):
                if dice.roll(3) == 0 and orders:
                    taken.append(orders.pop())
                    self.assertEqual(len(orders), log.back())
                elif dice.roll(3) == 0 and taken:
                    orders.append(taken.pop())
                    self.assertEqual(len(orders), log.forth())
                else:
                    froth = log.froth()
                    web = froth.web()
                    order = thrown_order(dice, web, {end: froth.bubble_of(end) for end in web})
                    try:
                        log.deed(order)
                    except FrothError:
                        continue
                    orders.append(order)
                    taken = []
                self.assertEqual(["begin 1 3 4 5 6"] + [shown(order) for order in orders], log.told())
            self.assert_same_froth(done(1, 3, [4, 5, 6], orders), log.froth())
            for at, order in enumerate(taken[::-1], start=1):
                orders.append(order)
                self.assert_same_froth(done(1, 3, [4, 5, 6], orders), log.at(len(orders)))

    def test_two_hundred_orders(self):
        log = Log(1, 2, [10, 4])
        orders = [("push", 1), ("pull", 1), ("wait", 1, 60), ("blow", 0, 1, 60)] * 50
        for order in orders:
            log.deed(order)
        self.assertEqual(200, log.stand())
        self.assertEqual(201, len(log.told()))
        self.assert_same_froth(done(1, 2, [10, 4], orders), log.froth())
        self.assert_same_froth(done(1, 2, [10, 4], orders), log_of(log.told()).froth())
        for stand in range(199, -1, -1):
            self.assertEqual(stand, log.back())
        self.assert_same_froth(Froth(1, 2, [10, 4]), log.froth())
        self.assert_same_froth(done(1, 2, [10, 4], orders[:120]), log.at(120))


class OwnWayTest(LogCase):
    def test_froths_go_their_own_way(self):
        log = many_logged()
        log.back()
        before = all_of(log)
        for froth in (log.froth(), log.at(0), log.at(log.stand()), log.at(len(MANY_ORDERS))):
            froth.deed(("push", 3))
            froth.deed(("wait", 7, 1))
            self.assertEqual(before, all_of(log))
        kept = log.froth()
        was = asked(kept)
        log.deed(("wait", 5, 1))
        self.assertEqual(was, asked(kept))

    def test_told_lists_may_be_changed(self):
        log = many_logged()
        rows = log.deed(("wait", 9, 1))
        before = all_of(log)
        rows.append("more")
        log.told().clear()
        log.told().append("more")
        log.froth().book().clear()
        self.assertEqual(before, all_of(log))
        # Nor does it matter at the first stand.
        while log.stand() > 0:
            log.back()
        log.told().clear()
        self.assertEqual([BEGIN], log.told())

    def test_two_logs(self):
        one, two = Log(1, 2, [10, 4]), Log(1, 2, [10, 4])
        before = all_of(two)
        one.deed(("push", 1))
        self.assertEqual(before, all_of(two))
        two.deed(("pull", 1))
        one.back()
        self.assertEqual(["begin 1 2 10 4", "pull 1"], two.told())
        self.assertEqual(1, two.stand())

    def test_asking_changes_nothing(self):
        log = many_logged()
        log.back()
        before = all_of(log)
        self.assertEqual(before, all_of(log))
        self.assertEqual(len(MANY_ORDERS), log.forth())

    def test_told_numbers_are_plain(self):
        log = many_logged()
        self.assert_told_plainly([log.stand(), log.back(), log.forth(), log.deed(("wait", 9, 1)), log.told()])
        self.assert_told_plainly([Log(1, 1, [5]).stand()])


class LogOfTest(LogCase):
    def test_read_back(self):
        log = many_logged()
        found = log_of(log.told())
        self.assertIsInstance(found, Log)
        self.assertEqual(all_of(log), all_of(found))
        log.back()
        log.back()
        found = log_of(log.told())
        self.assertEqual(log.stand(), found.stand())
        self.assert_same_froth(log.froth(), found.froth())
        # What was taken back is not told.
        self.assert_none(NoForth, found.forth)
        self.assert_none(NoStand, found.at, log.stand() + 1)

    def test_written_out(self):
        log = log_of(["begin 1 2 10 4", "push 1", "wait 5 2"])
        self.assertEqual(2, log.stand())
        self.assertEqual((14, 1), log.froth().gas(0))
        self.assertEqual(["begin 1 2 10 4", "push 1", "wait 5 2"], log.told())
        self.assertEqual(0, log_of(["begin 1 2 10 4"]).stand())
        self.assertEqual(1, log.back())

    def test_no_order(self):
        bad = [
            [], [""], ["push 1"], ["wait 1 1", "begin 1 2 10 4"], ["begin 1 2"], ["begin 1 2 10 4 "], ["back"],
            ["begin 1 2 10 4", ""], ["begin 1 2 10 4", "push"], ["begin 1 2 10 4", "push 01"],
            ["begin 1 2 10 4", "begin 1 2 10 4"], ["begin 1 2 10 4", "push 1", "begin 1 1 5"],
            ["begin 1 2 10 4", "begin 0 0 0"], ["begin 1 2 10 4", "back"], ["begin 1 2 10 4", "push 1", "hour"],
            ["BEGIN 1 2 10 4"], ["begin 1 2 10 04"],
        ]
        for lines in bad:
            with self.subTest(lines):
                kept = list(lines)
                self.assert_none(NoOrder, log_of, lines)
                self.assertEqual(kept, lines)

    def test_refused_as_the_text_is(self):
        begin = "begin 1 2 9 4"
        loops = ["begin 1 1 5", *[shown(order) for order in LOOP_ORDERS]]
        full = ["begin 6 6" + " 9" * 36] + [f"blow {6 * name} 1 2" for name in range(24)]
        for kind, lines in [
            (BadBegin, ["begin 0 2 9 4"]), (BadBegin, ["begin 1 2 9"]), (BadBegin, ["begin 1 2 9 4 5"]),
            (BadBegin, ["begin 999999999999 999999999999 5"]), (BadBegin, ["begin -999999999999 -999999999999 5"]),
            (BadBegin, ["begin 6 6" + " 1" * 37]), (BadBegin, ["begin 1 37" + " 1" * 37]), (BadBegin, ["begin 1 1 0"]),
            (NoFilm, [begin, "push 6"]), (NoFilm, [begin, "burst -1"]), (NoEnd, [begin, "blow 12 1 1"]),
            (Looped, [*loops, "pull 5"]), (OneBubble, [begin, "burst 1"]), (NotOne, [begin, "part 0 1 1 1"]),
            (SameFilm, [begin, "part 0 0 1 1"]), (BadGas, [begin, "part 0 9 9 1"]), (Full, [*full, "blow 0 1 1"]),
            (BadTime, [begin, "wait 1 0"]),
        ]:
            with self.subTest(lines[-1]):
                self.assert_none(kind, log_of, lines)
                if len(lines) > 1:
                    self.assertEqual(len(lines) - 2, log_of(lines[:-1]).stand())

    def test_the_first_that_is_refused(self):
        begin = "begin 1 2 9 4"
        self.assert_none(BadBegin, log_of, ["begin 0 1 5", "push", "begin 1 1 5"])
        self.assert_none(NoFilm, log_of, [begin, "push 6", "wait 1"])
        self.assert_none(NoOrder, log_of, [begin, "wait 1", "push 6"])
        self.assert_none(NoFilm, log_of, [begin, "push 6", begin])
        self.assert_none(NoOrder, log_of, [begin, begin, "push 6"])
        self.assert_none(NoOrder, log_of, ["push 6", "begin 0 1 5"])
        self.assert_none(BadTime, log_of, [begin, "wait 1 61", "blow 99 1 1"])

    def test_lines_changed_behind_the_call(self):
        lines = ["begin 1 2 10 4", "push 1"]
        log = log_of(lines)
        lines.append("wait 1 1")
        lines[0] = "begin 1 1 5"
        self.assertEqual(["begin 1 2 10 4", "push 1"], log.told())

    def test_lines_are_not_changed(self):
        lines = ["begin 1 2 10 4", "push 1"]
        log = log_of(lines)
        log.deed(("wait", 1, 1))
        log.told().clear()
        self.assertEqual(["begin 1 2 10 4", "push 1"], lines)


if __name__ == "__main__":
    unittest.main()
