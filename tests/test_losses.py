"""[9]: which losses hurt most, and two watches by parted candles."""

import itertools
import unittest

from flameward.errors import BadCandles, BadCount, TooMany
from flameward.lots import robbed, two
from samples import ABC, NO_COUNTS, plain_keeping, plain_longest, price_of, refused, small_candles, told

TWELVE = ((9, 999, 1),) * 12


def plain_robbed(candles, many):
    numbers = range(len(candles))
    told_by_loss = []
    for gone in itertools.combinations(numbers, many):
        left = tuple(number for number in numbers if number not in gone)
        told_by_loss.append((plain_longest(candles, left), gone))
    return sorted(told_by_loss)[0]


def plain_two(candles, time):
    lots = plain_keeping(candles, time)
    found = []
    for first, second in itertools.product(lots, lots):
        if first <= second and not set(first) & set(second):
            found.append((price_of(candles, first) + price_of(candles, second), first, second))
    return sorted(found)[0] if found else None


class Robbed(unittest.TestCase):
    def test_nothing_is_gone(self):
        told(self, (14, ()), robbed, ABC, 0)
        told(self, (0, ()), robbed, (), 0)

    def test_the_loss_that_hurts_most(self):
        told(self, (9, (0,)), robbed, ABC, 1)
        told(self, (4, (0, 1)), robbed, ABC, 2)
        told(self, (0, (0, 1, 2)), robbed, ABC, 3)
        told(self, (3, (1,)), robbed, ((3, 0, 1), (9, 0, 1)), 1)

    def test_of_several_the_first_as_tuples_go(self):
        told(self, (81, (0, 1, 2)), robbed, TWELVE, 3)
        told(self, (10, (1, 2)), robbed, ((1, 0, 1), (9, 999, 1), (9, 999, 1), (9, 999, 1)), 2)

    def test_no_more_than_there_are(self):
        told(self, (0, (0,)), robbed, ((5, 0, 1),), 1)
        refused(self, BadCount, None, robbed, ((5, 0, 1),), 2)
        refused(self, BadCount, None, robbed, ((5, 0, 1),) * 2, 3)
        refused(self, BadCount, None, robbed, (), 1)

    def test_no_more_than_three(self):
        refused(self, BadCount, None, robbed, TWELVE, 4)
        for wrong in NO_COUNTS:
            refused(self, BadCount, None, robbed, ABC, wrong)

    def test_bad_candles_first(self):
        refused(self, BadCandles, 2, robbed, ABC[:2] + ([],), None)
        refused(self, BadCandles, 12, robbed, TWELVE + TWELVE, 4)

    def test_against_all_losses(self):
        for candles in small_candles(25):
            for many in range(4):
                self.assertEqual(robbed(candles, many), plain_robbed(candles, many), candles)


class Two(unittest.TestCase):
    def test_by_parted_candles(self):
        told(self, (2, (0,), (1,)), two, ((5, 0, 1), (5, 0, 1)), 5)
        told(self, (9, (0, 2), (1,)), two, ((5, 3, 3), (9, 0, 1), (4, 2, 5)), 7)

    def test_the_first_is_no_greater(self):
        told(self, (4, (0, 3), (1, 2)), two, ((3, 9, 1), (2, 9, 1), (2, 9, 1), (1, 9, 1)), 4)

    def test_of_like_prices_the_least_tuple(self):
        told(self, (2, (0,), (1,)), two, ((5, 9, 1),) * 4, 5)
        told(self, (4, (0, 1), (2, 3)), two, ((5, 9, 1),) * 5, 10)

    def test_no_candle_for_time_0(self):
        told(self, (0, (), ()), two, ABC, 0)
        told(self, (0, (), ()), two, (), 0)
        told(self, (0, (), ()), two, ((5, 9, 1),) * 8, 0)

    def test_none(self):
        told(self, None, two, ABC, 14)
        told(self, None, two, (), 1)
        told(self, None, two, ((5, 9, 1),), 5)
        told(self, None, two, ABC, 9999)

    def test_eight_candles(self):
        told(self, (8, (0, 1, 2, 3), (4, 5, 6, 7)), two, ((9, 999, 1),) * 8, 36)
        told(self, None, two, ((9, 999, 1),) * 8, 37)

    def test_kinds(self):
        price, first, second = two(((5, 0, 1), (5, 0, 1)), 5)
        self.assertEqual((type(price), type(first), type(second)), (int, tuple, tuple))

    def test_against_all_pairs_of_lots(self):
        for candles in small_candles(25):
            for time in range(plain_longest(candles, (0, 1, 2, 3)) + 2):
                self.assertEqual(two(candles, time), plain_two(candles, time), (candles, time))

    def test_five_candles_against_all_pairs_of_lots(self):
        for candles in small_candles(8, 5, 3, 5):
            for time in range(1, 8):
                self.assertEqual(two(candles, time), plain_two(candles, time), (candles, time))

    def test_nine_candles_and_more(self):
        for many in range(9, 13):
            for time in (0, 5, 10000, None):
                refused(self, TooMany, None, two, TWELVE[:many], time)

    def test_no_time(self):
        for wrong in NO_COUNTS + (10000,):
            refused(self, BadCount, None, two, ABC, wrong)
            refused(self, BadCount, None, two, (), wrong)

    def test_bad_candles_first(self):
        refused(self, BadCandles, 12, two, TWELVE + TWELVE, None)
        refused(self, BadCandles, 8, two, TWELVE[:8] + ((9, 1000, 1),), 10000)


if __name__ == "__main__":
    unittest.main()
