"""Point 30: the desk; and the whole program spoken to by texts."""

import unittest
from fractions import Fraction

from frothwane.desk import Desk
from frothwane.errors import (
    BadBegin, BadGas, BadTime, FrothError, Full, Looped, NoEnd, NoFilm, NotOne, OneBubble, SameFilm,
)
from frothwane.froth import Froth
from frothwane.log import Log, log_of
from frothwane.words import shown
from tests.frothcase import LOOP_ORDERS, MANY_ORDERS, FrothCase, thrown_order
from tests.helpers import Dice
from tests.model import Model, Refused, ever_named

QUESTIONS = ["back", "forth", "log", "book", "hour", "bubbles", "next", "ledger 0"]
ASKING = ["log", "book", "hour", "bubbles", "next", *[f"ledger {name}" for name in range(12)]]
NO_TEXTS = [
    "", " ", "push", "push 01", "push 1 ", " push 1", "PUSH 1", "push -0", "hours", "Hour", "hour ", " hour", "back 1",
    "forth ", "log 1", "book 0", "bubbles 1", "next 1", "stand", "twin", "ledger", "ledger ", "ledger  0", " ledger 0",
    "ledger 0 ", "ledger 00", "ledger 01", "ledger -0", "ledger x", "ledger 1 2", "ledger +1", "ledger 1000000000000",
    "ledger -1000000000000", "Ledger 0", "ledger0", "ledger -", "begin", "begin 1 1", "begin 1 1 05", "no: order", "none",
    "picture", "total", "gas 0", "sides 0", "read", "back forth", "ledger 1/2", "wait 1/2", "wait 1", "~" * 600,
]
WORDS = {
    BadBegin: "begin", NoFilm: "film", NoEnd: "end", Looped: "looped", OneBubble: "one bubble", NotOne: "not one",
    SameFilm: "same film", BadGas: "gas", Full: "full", BadTime: "time",
}


def written(amount):
    """An amount as a text, by Fraction."""
    return str(Fraction(*amount))


def said(*texts):
    """A desk to which these texts were said."""
    desk = Desk()
    for text in texts:
        desk.say(text)
    return desk


def answers(desk):
    """What a desk answers to all questions that change nothing."""
    return {text: desk.say(text) for text in ASKING}


def answers_of(froth, log):
    """What a desk must answer to them, by a froth and the texts of its log."""
    names = froth.bubbles()
    first = froth.next_to_go()
    wanted = {
        "log": log,
        "book": [" ".join([written(row[0]), *map(str, row[1:])]) for row in froth.book()],
        "hour": [written(froth.hour())],
        "bubbles": [f"{name} gas {written(froth.gas(name))} sides {froth.sides(name)}" for name in names],
        "next": ["none"] if first is None else [f"{first[1]} in {written(first[0])}"],
    }
    for name in range(12):
        wanted[f"ledger {name}"] = ["no: bubble"]
    for name in range(min(12, ever_named(froth))):
        rows = froth.ledger(name)
        wanted[f"ledger {name}"] = [f"{written(hour)} gas {written(gas)} sides {sides}" for hour, gas, sides in rows]
    return wanted


class DeskCase(FrothCase):
    def assert_said(self, desk, text, wanted):
        told = desk.say(text)
        self.assertIs(list, type(told), text)
        self.assertEqual(wanted, told, text)
        self.assertEqual([str] * len(told), [type(one) for one in told])

    def assert_no(self, desk, text, word):
        """Answered by `no: ` and the word, and all that can be asked is as it was."""
        before = answers(desk)
        self.assert_said(desk, text, [f"no: {word}"])
        self.assertEqual(before, answers(desk))


class QuestionsTest(DeskCase):
    def test_written_out(self):
        desk = Desk()
        self.assert_said(desk, "begin 1 2 10 4", [])
        self.assert_said(desk, "hour", ["0"])
        self.assert_said(desk, "bubbles", ["0 gas 10 sides 6", "1 gas 4 sides 6"])
        self.assert_said(desk, "next", ["none"])
        self.assert_said(desk, "book", [])
        self.assert_said(desk, "log", ["begin 1 2 10 4"])
        self.assert_said(desk, "ledger 1", ["0 gas 4 sides 6"])
        self.assert_said(desk, "push 1", ["0 push 1"])
        self.assert_said(desk, "next", ["1 in 2"])
        self.assert_said(desk, "wait 1 3", [])
        self.assert_said(desk, "next", ["1 in 5/3"])
        self.assert_said(desk, "hour", ["1/3"])
        self.assert_said(desk, "bubbles", ["0 gas 32/3 sides 8", "1 gas 10/3 sides 4"])
        self.assert_said(desk, "wait 5 2", ["2 gone 0 1 0"])
        self.assert_said(desk, "book", ["0 push 1", "2 gone 0 1 0"])
        self.assert_said(desk, "bubbles", ["0 gas 14 sides 6"])
        self.assert_said(desk, "ledger 0", ["0 gas 10 sides 6", "0 gas 10 sides 8", "2 gas 14 sides 6"])
        self.assert_said(desk, "ledger 1", ["0 gas 4 sides 6", "0 gas 4 sides 4", "2 gas 0 sides 0"])
        self.assert_said(desk, "log", ["begin 1 2 10 4", "push 1", "wait 1 3", "wait 5 2"])
        self.assert_said(desk, "back", ["stand 2"])
        self.assert_said(desk, "hour", ["1/3"])
        self.assert_said(desk, "bubbles", ["0 gas 32/3 sides 8", "1 gas 10/3 sides 4"])
        self.assert_said(desk, "book", ["0 push 1"])
        self.assert_said(desk, "log", ["begin 1 2 10 4", "push 1", "wait 1 3"])
        self.assert_said(desk, "back", ["stand 1"])
        self.assert_said(desk, "forth", ["stand 2"])
        self.assert_said(desk, "forth", ["stand 3"])
        self.assert_said(desk, "hour", ["17/6"])
        self.assert_said(desk, "forth", ["no: forth"])

    def test_each_order(self):
        desk = said("begin 2 3 5 6 7 8 9 10")
        froth = Froth(2, 3, [5, 6, 7, 8, 9, 10])
        log = ["begin 2 3 5 6 7 8 9 10"]
        told = [desk.say(shown(order)) for order in MANY_ORDERS]
        wanted = [["0 blow 6"], ["0 push 4"], [], ["1/12 part 0 7"], ["1/12 pull 7"],
                  ["1/6 gone 18 6 4", "13/48 gone 21 7 4"], ["55/12 burst 2 1 0"], ["55/12 blow 8"], []]
        self.assertEqual(wanted, told)
        for order in MANY_ORDERS:
            froth.deed(order)
            log.append(shown(order))
        self.assertEqual(answers_of(froth, log), answers(desk))

    def test_names_with_gaps(self):
        desk = said("begin 1 2 9 4", "blow 0 1 1", "burst 8", "blow 0 5 2")
        self.assert_said(desk, "bubbles", answers_of(log_of(desk.say("log")).froth(), [])["bubbles"])
        self.assertEqual(["0", "1", "3"], [text.split(" ")[0] for text in desk.say("bubbles")])
        self.assertEqual(["0 gas 1 sides 3", "0 gas 0 sides 0"], desk.say("ledger 2"))
        self.assertEqual(["0 gas 5/2 sides 3"], desk.say("ledger 3"))

    def test_ten_names_and_more_rise_as_numbers(self):
        desk = said("begin 3 4" + " 7" * 12)
        self.assertEqual([f"{name} gas 7 sides 6" for name in range(12)], desk.say("bubbles"))

    def test_asking_changes_nothing(self):
        desk = said("begin 1 3 5 6 7", "push 1", "wait 1 2", "back")
        before = answers(desk)
        self.assertEqual(before, answers(desk))
        self.assert_said(desk, "forth", ["stand 2"])


class RefusalsTest(DeskCase):
    def test_each_word(self):
        desk = said("begin 1 2 9 4")
        for text, word in [
            ("push 6", "film"), ("pull -1", "film"), ("burst 999999999999", "film"), ("blow 12 1 1", "end"),
            ("part 0 12 1 1", "end"), ("burst 1", "one bubble"), ("part 0 1 1 1", "not one"),
            ("part 0 0 1 1", "same film"), ("part 0 9 9 1", "gas"), ("blow 0 0 1", "gas"), ("blow 0 1 61", "gas"),
            ("wait -1 1", "time"), ("wait 1 0", "time"), ("wait 100000000001 1", "time"), ("ledger 2", "bubble"),
            ("ledger -1", "bubble"), ("ledger 999999999999", "bubble"), ("ledger -999999999999", "bubble"),
            ("back", "back"), ("forth", "forth"), ("begin 0 1 5", "begin"), ("begin 1 2 9", "begin"),
            ("begin 1 1 1000001", "begin"), ("begin 999999999999 999999999999 5", "begin"),
            ("begin -999999999999 -999999999999 5", "begin"), ("begin -1 -1 5", "begin"),
        ]:
            self.assert_no(desk, text, word)

    def test_looped(self):
        desk = said("begin 1 1 5", *[shown(order) for order in LOOP_ORDERS])
        self.assert_no(desk, "push 5", "looped")
        self.assert_no(desk, "pull 5", "looped")

    def test_full(self):
        desk = said("begin 6 6" + " 9" * 36, *[f"blow {6 * name} 1 2" for name in range(23)])
        self.assert_said(desk, "blow 0 1 2", ["0 blow 59"])
        self.assert_no(desk, "blow 0 1 2", "full")
        self.assert_no(desk, "blow 0 0 2", "gas")
        self.assert_no(desk, "blow 999 1 2", "end")

    def test_texts_that_are_none_of_these(self):
        for desk in (said("begin 1 2 9 4", "push 1", "back"), said("begin 1 1 5")):
            for text in NO_TEXTS:
                self.assert_no(desk, text, "order")

    def test_a_refusal_leaves_what_was_taken_back(self):
        desk = said("begin 1 2 9 4", "push 1", "back")
        for text in ["push 99", "wait 1 0", "ledger 5", "nonsense", "begin 0 0 0"]:
            desk.say(text)
        self.assert_said(desk, "forth", ["stand 1"])


class NoLogTest(DeskCase):
    def test_orders_and_questions(self):
        desk = Desk()
        for text in QUESTIONS + ["push 1", "pull 1", "burst 1", "part 0 1 1 1", "blow 0 1 1", "wait 0 1", "wait -1 0",
                                 "ledger -5", "push 999999999999"]:
            self.assert_said(desk, text, ["no: log"])

    def test_texts_that_are_none_of_these(self):
        desk = Desk()
        for text in NO_TEXTS:
            self.assert_said(desk, text, ["no: order"])

    def test_a_refused_begin(self):
        desk = Desk()
        for text in ["begin 0 1 5", "begin 1 1 0", "begin 1 2 5", "begin 1 37" + " 1" * 37]:
            self.assert_said(desk, text, ["no: begin"])
            self.assert_said(desk, "hour", ["no: log"])
        self.assert_said(desk, "begin 1 1 5", [])
        self.assert_said(desk, "hour", ["0"])


class BeginTest(DeskCase):
    def test_in_the_place_of_a_log(self):
        desk = said("begin 1 2 9 4", "push 1", "wait 1 1", "back")
        self.assert_said(desk, "begin 1 1 7", [])
        self.assertEqual(answers_of(Froth(1, 1, [7]), ["begin 1 1 7"]), answers(desk))
        self.assert_said(desk, "back", ["no: back"])
        self.assert_said(desk, "forth", ["no: forth"])
        self.assert_said(desk, "log", ["begin 1 1 7"])

    def test_a_refused_begin_leaves_the_log(self):
        desk = said("begin 1 2 9 4", "push 1", "wait 1 1", "back")
        self.assert_no(desk, "begin 1 1 0", "begin")
        self.assert_no(desk, "begin 1 1", "order")
        self.assert_said(desk, "forth", ["stand 2"])
        self.assert_said(desk, "log", ["begin 1 2 9 4", "push 1", "wait 1 1"])

    def test_the_greatest_begin(self):
        desk = said("begin 6 6" + " 1000000" * 36)
        self.assertEqual([f"{name} gas 1000000 sides 6" for name in range(36)], desk.say("bubbles"))


class OwnWayTest(DeskCase):
    def test_two_desks(self):
        one, two = said("begin 1 2 9 4"), said("begin 1 2 9 4")
        before = answers(two)
        one.say("push 1")
        self.assertEqual(before, answers(two))
        two.say("pull 4")
        one.say("back")
        self.assert_said(two, "log", ["begin 1 2 9 4", "pull 4"])
        self.assertEqual(["no: log"], Desk().say("hour"))

    def test_told_lists_may_be_changed(self):
        desk = said("begin 1 2 9 4", "push 1", "wait 1 1")
        before = {text: list(told) for text, told in answers(desk).items()}
        for text in ASKING:
            desk.say(text).clear()
            desk.say(text).append("more")
        self.assertEqual(before, answers(desk))
        told = desk.say("wait 100 1")
        before = {text: list(rows) for text, rows in answers(desk).items()}
        told.clear()
        desk.say("nonsense").clear()
        self.assertEqual(before, answers(desk))
        self.assertEqual(["no: order"], desk.say("nonsense"))

    def test_by_the_name_of_the_argument(self):
        self.assertEqual([], Desk().say(text="begin 1 1 5"))


class WholeTest(DeskCase):
    """A long row of deeds through a desk against the same done to a froth, to a log and to the model."""

    def test_long_rows(self):
        for seed in range(8):
            dice = Dice(seed)
            gases = [1 + dice.roll(20) for name in range(4)]
            begin = " ".join(["begin 2 2", *map(str, gases)])
            desk, froth, log, model = said(begin), Froth(2, 2, gases), Log(2, 2, gases), Model(2, 2, gases)
            lines = [begin]
            for turn in range(60):
                order = thrown_order(dice, froth.web(), {end: froth.bubble_of(end) for end in froth.web()})
                try:
                    rows = froth.deed(order)
                except FrothError as found:
                    self.assert_said(desk, shown(order), [f"no: {WORDS[type(found)]}"])
                    self.assert_none(type(found), log.deed, order)
                    with self.assertRaises(Refused):
                        model.deed(order)
                    continue
                self.assertEqual(rows, model.deed(order))
                self.assertEqual(rows, log.deed(order))
                wanted = [" ".join([written(row[0]), *map(str, row[1:])]) for row in rows]
                self.assert_said(desk, shown(order), wanted)
                lines.append(shown(order))
            self.assertEqual(answers_of(froth, lines), answers(desk))
            self.assert_same_froth(froth, log.froth())
            self.assert_same_froth(froth, log_of(desk.say("log")).froth())
            self.assert_back_and_forth(desk, log, lines)

    def assert_back_and_forth(self, desk, log, lines):
        """All the way back and forth again, each stand asked."""
        for stand in range(len(lines) - 2, -1, -1):
            self.assert_said(desk, "back", [f"stand {stand}"])
            self.assertEqual(answers_of(log.at(stand), lines[:stand + 1]), answers(desk))
        self.assert_said(desk, "back", ["no: back"])
        for stand in range(1, len(lines)):
            self.assert_said(desk, "forth", [f"stand {stand}"])
        self.assert_said(desk, "forth", ["no: forth"])
        self.assertEqual(answers_of(log.froth(), lines), answers(desk))

    def test_waits_in_pieces_through_desks(self):
        texts = ["begin 1 3 2 5 20", "push 1", "push 4"]
        one, two = said(*texts, "wait 100000000000 1"), said(*texts, *["wait 5 2"] * 6, "wait 99999999985 1")
        for text in ASKING:
            if text != "log":
                self.assertEqual(one.say(text), two.say(text))
        self.assertEqual(["0 gas 27 sides 6"], one.say("bubbles"))
        self.assertEqual(["100000000000"], one.say("hour"))
        self.assertEqual(["0 push 1", "0 push 4", "5 gone 0 1 0", "25/2 gone 1 2 0"], one.say("book"))


if __name__ == "__main__":
    unittest.main()
