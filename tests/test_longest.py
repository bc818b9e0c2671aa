"""[4]: the longest watch, and watches by told turns."""

import itertools
import unittest

from flameward.watch import by_turn, judged, longest
from samples import ABC, all_lots, mixed_candles, plain_longest, told


def plain_turn(candles, turn):
    """The words of the promise, over the minutes that burn."""
    lasts, starts = 0, {}
    for number in turn:
        length, damp, _ = candles[number]
        start = damp if damp < lasts else lasts
        if start + length <= lasts:
            continue
        starts[number] = start
        lasts = start + length
    plan = sorted(starts.items(), key=lambda step: (step[1], step[0]))
    return lasts, plan


class Longest(unittest.TestCase):
    def check(self, candles, wanted):
        time, plan = longest(candles)
        self.assertEqual(time, wanted, candles)
        self.assertEqual(judged(candles, plan), wanted, candles)
        self.assertEqual(longest(candles), (time, plan))

    def test_kinds(self):
        answer = longest(ABC)
        self.assertIs(type(answer), tuple)
        self.assertIs(type(answer[0]), int)
        self.assertIs(type(answer[1]), list)
        for step in answer[1]:
            self.assertIs(type(step), tuple)

    def test_no_candle(self):
        told(self, (0, []), longest, ())

    def test_one_candle(self):
        told(self, (7, [(0, 0)]), longest, ((7, 0, 1),))
        told(self, (1, [(0, 0)]), longest, ((1, 999, 1),))

    def test_one_as_the_other_just_burns_out(self):
        told(self, (8, [(0, 0), (1, 5)]), longest, ((5, 0, 1), (3, 5, 1)))
        told(self, (7, [(0, 0), (1, 4)]), longest, ((5, 0, 1), (3, 4, 1)))

    def test_all_damp_at_once(self):
        self.check(((5, 0, 1), (9, 0, 1), (3, 0, 1)), 9)

    def test_lit_sooner_to_last_longer(self):
        self.check(ABC, 14)
        self.check(((9, 3, 1), (3, 10, 1), (4, 1, 1)), 13)

    def test_twelve_candles(self):
        self.check(((99, 999, 99),) * 12, 1098)
        self.check(((99, 0, 1),) * 12, 99)
        self.check(((1, 999, 1),) * 12, 12)

    def test_all_small_candles_against_all_plans(self):
        kinds = [(length, damp, 1) for length in (1, 2, 4) for damp in (0, 1, 3, 4)]
        for many in range(4):
            for candles in itertools.product(kinds, repeat=many):
                self.check(candles, plain_longest(candles, range(many)))

    def test_mixed_candles_against_all_plans(self):
        for seed in range(40):
            candles = mixed_candles(5, seed, 6, 12)
            self.check(candles, plain_longest(candles, range(5)))

    def test_no_turn_lasts_longer(self):
        for seed in range(20):
            candles = mixed_candles(6, seed, 9, 25)
            turns = itertools.permutations(range(6))
            self.check(candles, max(by_turn(candles, turn)[0] for turn in turns))

    def test_prices_do_not_count(self):
        dear = tuple((length, damp, 99 - price) for length, damp, price in ABC)
        self.assertEqual(longest(dear)[0], longest(ABC)[0])


class ByTurn(unittest.TestCase):
    def test_empty_turn(self):
        told(self, (0, []), by_turn, ABC, ())
        told(self, (0, []), by_turn, (), ())

    def test_kinds(self):
        answer = by_turn(ABC, (1, 0))
        self.assertIs(type(answer), tuple)
        self.assertIs(type(answer[1]), list)
        self.assertIs(type(answer[1][0]), tuple)

    def test_each_at_the_end_of_the_watch(self):
        candles = ((5, 99, 1), (3, 99, 1), (4, 99, 1))
        told(self, (12, [(2, 0), (0, 4), (1, 9)]), by_turn, candles, (2, 0, 1))
        told(self, (8, [(1, 0), (0, 3)]), by_turn, candles, (1, 0))

    def test_at_its_damp_if_that_is_sooner(self):
        candles = ((5, 99, 1), (6, 3, 1))
        told(self, (9, [(0, 0), (1, 3)]), by_turn, candles, (0, 1))
        told(self, (11, [(1, 0), (0, 6)]), by_turn, candles, (1, 0))

    def test_at_its_damp_if_that_is_the_end_of_the_watch(self):
        told(self, (11, [(0, 0), (1, 5)]), by_turn, ((5, 99, 1), (6, 5, 1)), (0, 1))

    def test_one_that_burns_no_longer_is_left_out(self):
        candles = ((9, 0, 1), (6, 3, 1), (7, 3, 1), (2, 3, 1), (5, 99, 1))
        told(self, (9, [(0, 0)]), by_turn, candles, (0, 1))
        told(self, (9, [(0, 0)]), by_turn, candles, (0, 3))
        told(self, (10, [(0, 0), (2, 3)]), by_turn, candles, (0, 2))
        told(self, (14, [(0, 0), (4, 9)]), by_turn, candles, (0, 1, 3, 4))

    def test_the_plan_rises_by_times(self):
        candles = ((9, 99, 1), (9, 99, 1), (30, 4, 1))
        told(self, (34, [(0, 0), (2, 4), (1, 9)]), by_turn, candles, (0, 1, 2))

    def test_like_times_rise_by_numbers(self):
        candles = ((9, 0, 1), (5, 0, 1), (7, 0, 1))
        told(self, (9, [(0, 0), (1, 0), (2, 0)]), by_turn, candles, (1, 2, 0))
        told(self, (9, [(0, 0), (2, 0)]), by_turn, candles, (2, 0, 1))
        told(self, (9, [(0, 0)]), by_turn, candles, (0, 2, 1))

    def test_all_turns_of_mixed_candles(self):
        for seed in range(30):
            candles = mixed_candles(5, seed, 9, 15)
            for lot in all_lots(5):
                for turn in itertools.permutations(lot):
                    time, plan = by_turn(candles, turn)
                    self.assertEqual((time, plan), plain_turn(candles, turn))
                    self.assertEqual(judged(candles, plan), time)


if __name__ == "__main__":
    unittest.main()
