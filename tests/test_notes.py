"""[13]: candles as texts."""

import re
import unittest

from flameward.errors import BadCandles, BadText
from flameward.notes import read, written
from samples import ABC, Untouched, WRONG_KINDS, mixed_candles, refused, told

ROW = re.compile("candle (0|[1-9][0-9]{0,2}) (0|[1-9][0-9]{0,2}) (0|[1-9][0-9]{0,2})")
SIGNS = "\n" + "".join(chr(code) for code in range(32, 127) if code != 37)


def bad_text(test, row, text):
    for _ in range(2):
        with Untouched(test, text), test.assertRaises(BadText) as caught:
            read(text)
        test.assertIs(caught.exception.__class__, BadText)
        test.assertEqual(repr(caught.exception.row), repr(row), text)


def can_be(candle):
    return 1 <= candle[0] <= 99 and 0 <= candle[1] <= 999 and 1 <= candle[2] <= 99


class Written(unittest.TestCase):
    def test_a_row_for_each(self):
        told(self, "candle 5 12 3", written, ((5, 12, 3),))
        told(self, "candle 5 12 3\ncandle 9 0 1\ncandle 4 2 7", written, ABC)
        told(self, "candle 1 0 1\ncandle 99 999 99", written, ((1, 0, 1), (99, 999, 99)))

    def test_none_as_the_empty_text(self):
        told(self, "", written, ())

    def test_bad_candles(self):
        refused(self, BadCandles, 0, written, [ABC[0]])
        refused(self, BadCandles, 1, written, (ABC[0], (5, 1000, 3)))
        refused(self, BadCandles, 12, written, ABC * 5)


class Read(unittest.TestCase):
    def test_what_is_written(self):
        for many in range(13):
            for seed in range(10):
                candles = mixed_candles(many, seed)
                told(self, candles, read, written(candles))

    def test_the_empty_text(self):
        told(self, (), read, "")

    def test_the_ends_of_the_numbers(self):
        told(self, ((1, 0, 1), (99, 999, 99)), read, "candle 1 0 1\ncandle 99 999 99")

    def test_kinds(self):
        self.assertIs(type(read("")), tuple)
        self.assertIs(type(read("candle 5 12 3")[0]), tuple)

    def test_not_so_by_its_words(self):
        wrong = (
            "candle", "candle 5", "candle 5 12", "candle 5 12 3 1", "5 12 3", "Candle 5 12 3", "candles 5 12 3",
            "candle  5 12 3", "candle 5  12 3", " candle 5 12 3", "candle 5 12 3 ", " ", "candle 5 12 ", "candle   ",
            "candle 5 12 -3", "candle +5 12 3", "candle 5 12 3.", "candle 5 1_2 3", "candle five 12 3", "candle 5,12,3",
            "candle 5 12 3,", "candle 0x5 12 3", "candle 5 12 1e1", "",
        )
        for row in wrong:
            bad_text(self, 1, "candle 5 12 3\n" + row + "\ncandle 1 1 1")
            if row:
                bad_text(self, 0, row)
                bad_text(self, 0, row + "\n" + row)

    def test_needless_zeros_and_figures(self):
        for number in ("00", "01", "000", "05", "012", "0012", "1000", "0999", "9999", "00000", "12345"):
            for row in (f"candle {number} 1 1", f"candle 1 {number} 1", f"candle 1 1 {number}"):
                bad_text(self, 0, row)
                bad_text(self, 1, "candle 5 12 3\n" + row)

    def test_line_ends(self):
        bad_text(self, 0, "\n")
        bad_text(self, 0, "\n\n")
        bad_text(self, 0, "\ncandle 5 12 3")
        bad_text(self, 1, "candle 5 12 3\n")
        bad_text(self, 1, "candle 5 12 3\n\ncandle 5 12 3")

    def test_no_text(self):
        for wrong in (None, True, False, 0, 5, (), ABC, [], ["candle 5 12 3"]):
            bad_text(self, 0, wrong)

    def test_then_bad_candles(self):
        for row in ("candle 0 12 3", "candle 100 12 3", "candle 5 12 0", "candle 5 12 100", "candle 999 999 999"):
            refused(self, BadCandles, 0, read, row)
            refused(self, BadCandles, 2, read, "candle 5 12 3\ncandle 5 12 3\n" + row + "\ncandle 0 0 0")

    def test_a_thirteenth(self):
        rows = ["candle 5 12 3"] * 12
        self.assertEqual(read("\n".join(rows)), ((5, 12, 3),) * 12)
        refused(self, BadCandles, 12, read, "\n".join(rows + ["candle 5 12 3"]))
        refused(self, BadCandles, 12, read, "\n".join(rows * 3))

    def test_bad_text_ahead_of_bad_candles(self):
        bad_text(self, 1, "candle 0 12 3\ncandle 5 12")
        bad_text(self, 13, "candle 5 12 3\n" * 13 + "candle 5 12 03")
        bad_text(self, 20, "candle 0 0 0\n" * 20)


class Spoiled(unittest.TestCase):
    def check(self, text):
        rows = [ROW.fullmatch(line) for line in text.split("\n")]
        if None in rows:
            bad_text(self, rows.index(None), text)
            return
        candles = tuple(tuple(int(word) for word in row.groups()) for row in rows)
        for number, candle in enumerate(candles):
            if not can_be(candle):
                refused(self, BadCandles, number, read, text)
                return
        told(self, candles, read, text)

    def test_in_one_place(self):
        text = "candle 5 120 3\ncandle 99 0 10"
        for place in range(len(text) + 1):
            self.check(text[:place] + text[place + 1:])
            self.check(text[:place] + text[place:place + 1] * 2 + text[place + 1:])
            for sign in SIGNS:
                self.check(text[:place] + sign + text[place:])
                self.check(text[:place] + sign + text[place + 1:])


if __name__ == "__main__":
    unittest.main()
