"""[7]: whether a lot keeps to a time, and the cheapest and the smallest lots that do."""

import unittest

from flameward.errors import BadCandles, BadCount, BadLot
from flameward.lots import cheapest, fewest, keeps
from samples import ABC, NO_COUNTS, all_lots, plain_keeping, plain_longest, price_of, refused, small_candles, told

TWELVE = ((99, 999, 99),) * 12


class Keeps(unittest.TestCase):
    def test_to_the_very_time(self):
        told(self, True, keeps, ABC, (0, 1, 2), 14)
        told(self, False, keeps, ABC, (0, 1, 2), 15)
        told(self, True, keeps, ABC, (0, 2), 9)
        told(self, False, keeps, ABC, (0, 2), 10)

    def test_to_time_0_without_any_candle(self):
        told(self, True, keeps, ABC, (), 0)
        told(self, False, keeps, ABC, (), 1)
        told(self, True, keeps, (), (), 0)

    def test_to_the_last_time(self):
        told(self, False, keeps, TWELVE, tuple(range(12)), 9999)
        told(self, True, keeps, TWELVE, tuple(range(12)), 1098)
        told(self, False, keeps, TWELVE, tuple(range(12)), 1099)

    def test_against_all_plans(self):
        for candles in small_candles(15):
            for lot in all_lots(4):
                lasts = plain_longest(candles, lot)
                for time in range(lasts + 3):
                    self.assertIs(keeps(candles, lot, time), time <= lasts)


class Cheapest(unittest.TestCase):
    def test_the_price_counts(self):
        told(self, (1, (1,)), cheapest, ABC, 9)
        told(self, (4, (0, 1)), cheapest, ABC, 10)
        candles = ((9, 9, 9), (3, 9, 2), (3, 9, 2), (3, 9, 2))
        told(self, (6, (1, 2, 3)), cheapest, candles, 9)

    def test_no_candle_for_time_0(self):
        told(self, (0, ()), cheapest, ABC, 0)
        told(self, (0, ()), cheapest, (), 0)

    def test_none(self):
        told(self, None, cheapest, ABC, 15)
        told(self, None, cheapest, (), 1)
        told(self, None, cheapest, TWELVE, 9999)

    def test_twelve_candles(self):
        told(self, (1188, tuple(range(12))), cheapest, TWELVE, 1098)

    def test_against_all_lots(self):
        for candles in small_candles(20):
            for time in range(plain_longest(candles, (0, 1, 2, 3)) + 2):
                lots = plain_keeping(candles, time)
                if not lots:
                    self.assertIsNone(cheapest(candles, time))
                    continue
                price, lot = cheapest(candles, time)
                self.assertEqual(price, min(price_of(candles, other) for other in lots))
                self.assertEqual(price_of(candles, lot), price)
                self.assertIn(lot, lots)
                self.assertEqual(cheapest(candles, time), (price, lot))


class Fewest(unittest.TestCase):
    def test_the_number_counts(self):
        told(self, (1, (0,)), fewest, ((9, 9, 9), (3, 9, 2), (3, 9, 2), (3, 9, 2)), 9)
        told(self, (2, (0, 1)), fewest, ABC, 14)

    def test_no_candle_for_time_0(self):
        told(self, (0, ()), fewest, ABC, 0)
        told(self, (0, ()), fewest, (), 0)

    def test_none(self):
        told(self, None, fewest, ABC, 15)
        told(self, None, fewest, (), 1)
        told(self, None, fewest, TWELVE, 9999)

    def test_twelve_candles(self):
        told(self, (12, tuple(range(12))), fewest, TWELVE, 1098)

    def test_against_all_lots(self):
        for candles in small_candles(20):
            for time in range(plain_longest(candles, (0, 1, 2, 3)) + 2):
                lots = plain_keeping(candles, time)
                if not lots:
                    self.assertIsNone(fewest(candles, time))
                    continue
                many, lot = fewest(candles, time)
                self.assertEqual(many, min(len(other) for other in lots))
                self.assertEqual(len(lot), many)
                self.assertIn(lot, lots)


class Refused(unittest.TestCase):
    def test_no_time(self):
        for wrong in NO_COUNTS + (10000,):
            refused(self, BadCount, None, keeps, ABC, (0,), wrong)
            refused(self, BadCount, None, cheapest, ABC, wrong)
            refused(self, BadCount, None, fewest, ABC, wrong)

    def test_the_lot_behind_the_candles_ahead_of_the_time(self):
        refused(self, BadCandles, 1, keeps, (ABC[0], None), None, None)
        refused(self, BadLot, 0, keeps, ABC, [0], None)
        refused(self, BadLot, 1, keeps, ABC, (1, 0), 10000)
        refused(self, BadLot, 1, keeps, ABC, (0, 3), 9)
        refused(self, BadLot, 0, keeps, ABC, (True,), -1)
        refused(self, BadCandles, 0, cheapest, [], None)
        refused(self, BadCandles, 0, fewest, [], 10000)


if __name__ == "__main__":
    unittest.main()
