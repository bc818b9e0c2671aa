"""[5]: the bounds of a lot, the least of them, and that the longest watch comes to it."""

import itertools
import unittest

from flameward.watch import bound, bounds, by_turn, judged, longest
from samples import ABC, NO_NUMBERS, all_lots, mixed_candles, plain_longest, told

# Latest ends 17, 9 and 6, the last two like those of 3 and 4.
MANY = ((5, 12, 3), (9, 0, 1), (4, 2, 7), (2, 7, 1), (1, 5, 1))


class Bounds(unittest.TestCase):
    def test_the_lengths_together(self):
        told(self, 0, bounds, ABC, (), None)
        told(self, 0, bounds, (), (), None)
        told(self, 18, bounds, ABC, (0, 1, 2), None)
        told(self, 9, bounds, ABC, (0, 2), None)

    def test_by_a_candle(self):
        told(self, 17, bounds, ABC, (0, 1, 2), 0)
        told(self, 14, bounds, ABC, (0, 1, 2), 1)
        told(self, 20, bounds, ABC, (0, 1, 2), 2)

    def test_only_those_of_the_lot_count(self):
        told(self, 15, bounds, ABC, (1, 2), 2)
        told(self, 6, bounds, ABC, (2,), 2)

    def test_like_latest_ends_are_not_later(self):
        told(self, 14, bounds, MANY, (0, 1, 3), 1)
        told(self, 14, bounds, MANY, (0, 1, 3), 3)
        told(self, 11, bounds, MANY, (0, 2, 4), 2)

    def test_no_candle_of_the_lot(self):
        for wrong in (0, 2, 3, -1, 12, 10 ** 30):
            told(self, None, bounds, ABC, (1,), wrong)
        told(self, None, bounds, ABC, (), 0)
        told(self, None, bounds, (), (), 0)

    def test_no_candle(self):
        for wrong in NO_NUMBERS[1:] + ({}, b"", ABC):
            told(self, None, bounds, ABC, (0, 1), wrong)

    def test_ends_of_the_numbers(self):
        told(self, 1098, bounds, ((99, 999, 99),), (0,), 0)
        told(self, 1, bounds, ((1, 0, 1),), (0,), 0)
        told(self, 1188, bounds, ((99, 999, 99),) * 12, tuple(range(12)), None)


class Bound(unittest.TestCase):
    def test_kinds(self):
        self.assertIs(type(bound(ABC, (0,))), tuple)

    def test_empty_lot(self):
        told(self, (0, None), bound, ABC, ())
        told(self, (0, None), bound, (), ())

    def test_the_least(self):
        told(self, (14, 1), bound, ABC, (0, 1, 2))
        told(self, (9, None), bound, ABC, (0, 2))
        told(self, (9, 1), bound, ABC, (1, 2))

    def test_none_is_first(self):
        told(self, (9, None), bound, ABC, (1,))
        told(self, (14, None), bound, ABC, (0, 1))

    def test_of_several_candles_the_first(self):
        told(self, (9, 1), bound, MANY, (1, 3))
        told(self, (11, 2), bound, ((5, 12, 1), (9, 9, 1), (4, 2, 1), (3, 3, 1)), (0, 2, 3))
        told(self, (99, 0), bound, ((99, 0, 1),) * 12, tuple(range(12)))

    def test_it_is_the_least_of_bounds(self):
        for seed in range(60):
            candles = mixed_candles(5, seed, 6, 9)
            for lot in all_lots(5):
                limits = (None,) + lot
                times = [bounds(candles, lot, limit) for limit in limits]
                first = times.index(min(times))
                self.assertEqual(bound(candles, lot), (times[first], limits[first]))


class SoItIs(unittest.TestCase):
    def test_no_plan_of_a_lot_passes_any_bound(self):
        for seed in range(15):
            candles = mixed_candles(4, seed, 5, 8)
            for lot in all_lots(4):
                best = plain_longest(candles, lot)
                for limit in (None,) + lot:
                    self.assertLessEqual(best, bounds(candles, lot, limit))

    def test_the_longest_watch_is_the_least_bound(self):
        kinds = [(length, damp, 1) for length in (1, 3) for damp in (0, 1, 2, 5)]
        for candles in itertools.product(kinds, repeat=3):
            for lot in all_lots(3):
                least = bound(candles, lot)[0]
                self.assertEqual(plain_longest(candles, lot), least)
                self.assertEqual(longest(tuple(candles[number] for number in lot))[0], least)

    def test_it_comes_by_rising_latest_ends(self):
        for seed in range(60):
            candles = mixed_candles(12, seed, 99, 400)
            turn = tuple(sorted(range(12), key=lambda number: sum(candles[number][:2])))
            time, plan = by_turn(candles, turn)
            self.assertEqual(time, bound(candles, tuple(range(12)))[0])
            self.assertEqual(time, longest(candles)[0])
            self.assertEqual(time, judged(candles, plan))


if __name__ == "__main__":
    unittest.main()
