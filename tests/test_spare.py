"""[8]: candles that could be spared, be shorter or damp sooner, and how long one more would have to be."""

import unittest

from flameward.errors import BadCandles, BadCount, NoWatch
from flameward.lots import lean, one_more, slack, spare
from samples import ABC, NO_COUNTS, plain_longest, refused, small_candles, told

TWELVE = ((9, 999, 1),) * 12
ALL = (0, 1, 2, 3)


def plain_keep(candles, time):
    return plain_longest(candles, tuple(range(len(candles)))) >= time


def changed(candles, number, candle):
    return candles[:number] + (candle,) + candles[number + 1:]


def plain_spare(candles, time):
    return [n for n in ALL if plain_longest(candles, tuple(m for m in ALL if m != n)) >= time]


def plain_lean(candles, time):
    left = list(ALL)
    for number in (3, 2, 1, 0):
        if plain_longest(candles, tuple(n for n in left if n != number)) >= time:
            left.remove(number)
    return tuple(left)


def plain_slack(candles, time, number):
    if number in plain_spare(candles, time):
        return (0, 0)
    length, damp, price = candles[number]
    lengths = [n for n in range(1, 12) if plain_keep(changed(candles, number, (n, damp, price)), time)]
    damps = [n for n in range(0, 12) if plain_keep(changed(candles, number, (length, n, price)), time)]
    return (min(lengths), min(damps))


def plain_one_more(candles, time, damp):
    if plain_keep(candles, time):
        return 0
    lengths = (n for n in range(1, 100) if plain_keep(candles + ((n, damp, 1),), time))
    return next(lengths, None)


class Spare(unittest.TestCase):
    def test_each_alone(self):
        told(self, [0, 1], spare, ((5, 0, 1), (5, 0, 1)), 5)
        told(self, [2], spare, ABC, 14)
        told(self, [0, 1, 2], spare, ABC, 9)

    def test_none_of_them(self):
        told(self, [], spare, TWELVE, 108)
        told(self, [], spare, (), 0)

    def test_all_of_twelve(self):
        told(self, list(range(12)), spare, TWELVE, 99)
        told(self, list(range(12)), spare, TWELVE, 0)

    def test_against_all_losses(self):
        for candles in small_candles(25):
            for time in range(plain_longest(candles, ALL) + 1):
                self.assertEqual(spare(candles, time), plain_spare(candles, time))

    def test_the_list_may_be_changed(self):
        first = spare(ABC, 9)
        first.clear()
        self.assertEqual(spare(ABC, 9), [0, 1, 2])


class Lean(unittest.TestCase):
    def test_from_the_last_on(self):
        told(self, (0,), lean, ((5, 0, 1), (5, 0, 1), (5, 0, 1)), 5)
        told(self, (0, 1), lean, ABC, 14)
        told(self, (1,), lean, ((5, 0, 1), (9, 0, 1), (5, 0, 1)), 6)

    def test_what_is_spare_alone_may_be_needed_then(self):
        candles = ((5, 9, 1), (5, 9, 1), (5, 9, 1))
        told(self, [0, 1, 2], spare, candles, 10)
        told(self, (0, 1), lean, candles, 10)

    def test_nothing_is_left_for_time_0(self):
        told(self, (), lean, TWELVE, 0)
        told(self, (), lean, (), 0)

    def test_all_of_twelve(self):
        told(self, tuple(range(12)), lean, TWELVE, 108)
        told(self, tuple(range(11)), lean, TWELVE, 99)

    def test_one_by_one(self):
        for candles in small_candles(25):
            for time in range(plain_longest(candles, ALL) + 1):
                self.assertEqual(lean(candles, time), plain_lean(candles, time))


class Slack(unittest.TestCase):
    def test_one_that_is_spare(self):
        told(self, (0, 0), slack, ABC, 14, 2)
        told(self, (0, 0), slack, ((5, 0, 1),), 0, 0)

    def test_length_and_damp(self):
        told(self, (5, 9), slack, ABC, 14, 0)
        told(self, (3, 7), slack, ABC, 12, 0)
        told(self, (4, 0), slack, ((9, 7, 1),), 4, 0)

    def test_nothing_to_spare(self):
        told(self, (9, 0), slack, ((9, 0, 1),), 9, 0)
        chain = tuple((99, min(99 * number, 999), 1) for number in range(12))
        told(self, (99, 999), slack, chain, 1098, 11)
        # The last one can't be lit behind 999, so that the one ahead may burn out then.
        told(self, (9, 900), slack, chain, 1098, 10)
        told(self, (99, 990), slack, chain[:11], 1089, 10)
        told(self, (99, 0), slack, chain[:11], 1089, 0)

    def test_the_ends_of_the_numbers(self):
        told(self, (1, 0), slack, ((99, 999, 1),), 1, 0)
        told(self, (9, 0), slack, ((99, 999, 1),) * 11, 999, 10)

    def test_against_all_lengths_and_damps(self):
        for candles in small_candles(12):
            for time in range(1, plain_longest(candles, ALL) + 1):
                for number in ALL:
                    wanted = plain_slack(candles, time, number)
                    self.assertEqual(slack(candles, time, number), wanted, (candles, time, number))


class OneMore(unittest.TestCase):
    def test_none_is_needed(self):
        told(self, 0, one_more, ABC, 14, 0)
        told(self, 0, one_more, (), 0, 0)
        told(self, 0, one_more, ABC, 0, 999)

    def test_the_least_length(self):
        told(self, 1, one_more, ABC, 15, 12)
        told(self, 3, one_more, ABC, 17, 9)
        told(self, 10, one_more, ABC, 15, 0)

    def test_the_longest_and_one_beyond(self):
        told(self, 99, one_more, (), 99, 0)
        told(self, None, one_more, (), 100, 0)
        told(self, None, one_more, (), 100, 999)
        told(self, 99, one_more, ABC, 113, 999)
        told(self, None, one_more, ABC, 114, 999)
        told(self, None, one_more, ABC, 9999, 999)

    def test_with_twelve(self):
        told(self, 1, one_more, TWELVE, 109, 999)
        told(self, 99, one_more, TWELVE, 207, 999)
        told(self, None, one_more, TWELVE, 208, 999)
        told(self, 0, one_more, TWELVE, 108, 0)

    def test_against_all_lengths(self):
        for candles in small_candles(8, 3):
            lasts = plain_longest(candles, (0, 1, 2))
            for damp in (0, 1, 3, 6, 10, 999):
                for time in list(range(lasts + 4)) + [lasts + 99, lasts + 100]:
                    wanted = plain_one_more(candles, time, damp)
                    self.assertEqual(one_more(candles, time, damp), wanted, (candles, time, damp))


class Refused(unittest.TestCase):
    def test_no_watch(self):
        for call in (spare, lean):
            refused(self, NoWatch, None, call, ABC, 15)
            refused(self, NoWatch, None, call, (), 1)
            refused(self, NoWatch, None, call, TWELVE, 9999)
        refused(self, NoWatch, None, slack, ABC, 15, 0)
        refused(self, NoWatch, None, slack, ABC, 9999, 0)

    def test_no_time(self):
        for wrong in NO_COUNTS + (10000,):
            refused(self, BadCount, None, spare, ABC, wrong)
            refused(self, BadCount, None, lean, ABC, wrong)
            refused(self, BadCount, None, slack, ABC, wrong, 0)
            refused(self, BadCount, None, one_more, ABC, wrong, 0)

    def test_no_candle_for_slack(self):
        for wrong in NO_COUNTS + (3, 12):
            refused(self, BadCount, None, slack, ABC, 14, wrong)
            refused(self, BadCount, None, slack, ABC, 0, wrong)
        refused(self, BadCount, None, slack, (), 0, 0)

    def test_no_candle_is_refused_behind_no_watch(self):
        for wrong in NO_COUNTS + (3,):
            refused(self, NoWatch, None, slack, ABC, 15, wrong)
        refused(self, BadCount, None, slack, ABC, 10000, 77)

    def test_no_damp(self):
        for wrong in NO_COUNTS + (1000,):
            for time in (0, 14, 9999):
                refused(self, BadCount, None, one_more, ABC, time, wrong)

    def test_bad_candles_first(self):
        wrong = (ABC[0], (0, 0, 1))
        refused(self, BadCandles, 1, spare, wrong, None)
        refused(self, BadCandles, 1, lean, wrong, 9999)
        refused(self, BadCandles, 1, slack, wrong, 9999, 77)
        refused(self, BadCandles, 1, one_more, wrong, None, None)
        refused(self, BadCandles, 12, one_more, TWELVE + TWELVE, 0, 0)


if __name__ == "__main__":
    unittest.main()
