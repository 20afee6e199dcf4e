"""Points 26 and 27: orders and rows as texts."""

import unittest

from frothwane.errors import NoOrder
from frothwane.words import read, shown, shown_row
from tests.frothcase import MANY_ORDERS, many_done

MOST = 10 ** 12 - 1

WRITTEN = {
    "push 0": ("push", 0),
    "push 12": ("push", 12),
    "pull -3": ("pull", -3),
    "burst 100": ("burst", 100),
    "part 0 7 5 2": ("part", 0, 7, 5, 2),
    "part -1 -20 -300 -4000": ("part", -1, -20, -300, -4000),
    "blow 7 0 0": ("blow", 7, 0, 0),
    "wait 0 1": ("wait", 0, 1),
    "wait 100000000000 60": ("wait", 10 ** 11, 60),
    "push 999999999999": ("push", MOST),
    "push -999999999999": ("push", -MOST),
    "pull 100000000000": ("pull", 10 ** 11),
    "begin 1 2 10 4": ("begin", 1, 2, 10, 4),
    "begin 1 1 5": ("begin", 1, 1, 5),
    "begin 0 -1 -999999999999": ("begin", 0, -1, -MOST),
    "begin 999999999999 999999999999 0": ("begin", MOST, MOST, 0),
    "begin 2 2 1": ("begin", 2, 2, 1),
}
ORDERS = ["push 1", "pull 2", "burst 3", "part 4 5 6 7", "blow 8 9 10", "wait 11 12", "begin 1 2 3"]


class ShownAndReadTest(unittest.TestCase):
    def assert_no_order(self, text):
        with self.assertRaises(NoOrder, msg=text) as caught:
            read(text)
        self.assertIs(NoOrder, type(caught.exception))

    def test_written_out(self):
        for text, order in WRITTEN.items():
            with self.subTest(text):
                self.assertEqual(text, shown(order))
                self.assertEqual(order, read(text))

    def test_kinds(self):
        for text in WRITTEN:
            order = read(text)
            self.assertIs(tuple, type(order))
            self.assertEqual([str] + [int] * (len(order) - 1), [type(part) for part in order])
            self.assertIs(str, type(shown(order)))

    def test_each_order_read_back(self):
        for order in MANY_ORDERS:
            self.assertEqual(order, read(shown(order)))

    def test_many_gases(self):
        for many in (1, 2, 36, 37, 100, 200):
            order = ("begin", 6, 6, *range(many))
            self.assertEqual(order, read(shown(order)))

    def test_begin_with_no_gas(self):
        for text in ["begin", "begin 1", "begin 1 1", "begin 6 6"]:
            self.assert_no_order(text)

    def test_too_many_and_too_few_numbers(self):
        counts = {"push": 1, "pull": 1, "burst": 1, "part": 4, "blow": 3, "wait": 2}
        for word, wanted in counts.items():
            for many in range(8):
                text = " ".join([word] + ["1"] * many)
                if many == wanted:
                    self.assertEqual((word, *[1] * many), read(text))
                else:
                    self.assert_no_order(text)

    def test_numbers_not_so_written(self):
        bad = ["-0", "00", "01", "007", "-01", "-", "--1", "+1", "1-", "1.0", "1/2", "0x1", "1e3", "1_0", "a", "x1", "1x",
               "1,0", "1000000000000", "-1000000000000", "0000000000001", "", "'1'", "O", "None", "True", "1-1", "-00",
               "000000000000", "-000000000001"]
        for order in ORDERS:
            parts = order.split(" ")
            for at in range(1, len(parts)):
                for number in bad:
                    self.assert_no_order(" ".join(parts[:at] + [number] + parts[at + 1:]))

    def test_noughts_within_numbers(self):
        for number in ("10", "100", "-10", "-100", "101", "900000000000"):
            self.assertEqual(("push", int(number)), read(f"push {number}"))

    def test_blanks(self):
        for order in ORDERS:
            self.assert_no_order(" " + order)
            self.assert_no_order(order + " ")
            self.assert_no_order(order + "  ")
            self.assert_no_order(order.replace(" ", ""))
            for at, sign in enumerate(order):
                if sign == " ":
                    self.assert_no_order(order[:at] + " " + order[at:])
                    self.assert_no_order(order[:at] + order[at + 1:])
                    for mark in "\t\n,_;":
                        self.assert_no_order(order[:at] + mark + order[at + 1:])

    def test_words_unknown_or_in_capitals(self):
        for order in ORDERS:
            self.assert_no_order(order.upper())
            self.assert_no_order(order.capitalize())
            self.assert_no_order("a" + order)
            self.assert_no_order(order[1:])
            self.assert_no_order(order.split(" ", 1)[1])
            self.assert_no_order("x " + order)
        for text in ["", " ", "  ", "0", "5 5", "pop 1", "ledger 1", "back", "forth", "log", "book", "hour", "next",
                     "bubbles", "gone 1 2 3", "~", "!", "push 1; push 2", "push 1 push 2", "Push 1", "pushes 1"]:
            self.assert_no_order(text)

    def test_bounds_are_not_asked(self):
        for text in ["wait -1 0", "blow -5 0 61", "part 0 0 0 0", "begin -1 -1 0", "begin 99 99 1000000000"]:
            self.assertEqual(text, shown(read(text)))

    def test_long_texts(self):
        self.assert_no_order("push " + "1" * 595)
        self.assert_no_order("p" * 600)
        self.assert_no_order(" " * 600)
        self.assert_no_order("push" + " 1" * 298)
        self.assertEqual(298, len(read("begin" + " 1" * 297)))

    def test_by_the_names_of_the_arguments(self):
        self.assertEqual("push 1", shown(order=("push", 1)))
        self.assertEqual(("push", 1), read(text="push 1"))


class ShownRowTest(unittest.TestCase):
    def test_each_row(self):
        rows = {
            "7/2 gone 3 4 1": ((7, 2), "gone", 3, 4, 1),
            "0 push 12": ((0, 1), "push", 12),
            "1/60 pull 0": ((1, 60), "pull", 0),
            "3 blow 60": ((3, 1), "blow", 60),
            "10/3 part 0 9": ((10, 3), "part", 0, 9),
            "100000000000 burst 5 7 2": ((10 ** 11, 1), "burst", 5, 7, 2),
        }
        for text, row in rows.items():
            self.assertEqual(text, shown_row(row))
            self.assertEqual(text, shown_row(row=row))

    def test_rows_of_a_froth(self):
        wanted = ["0 blow 6", "0 push 4", "1/12 part 0 7", "1/12 pull 7", "1/6 gone 18 6 4", "13/48 gone 21 7 4",
                  "55/12 burst 2 1 0", "55/12 blow 8"]
        self.assertEqual(wanted, [shown_row(row) for row in many_done().book()])


if __name__ == "__main__":
    unittest.main()
