"""[6]: by how many turns of all candles the watch is the longest."""

import itertools
import unittest

from flameward.errors import BadCandles, TooMany
from flameward.lots import turns
from flameward.watch import by_turn
from samples import ABC, mixed_candles, plain_longest, refused, told


def plain_turns(candles):
    best = plain_longest(candles, tuple(range(len(candles))))
    lasting = [by_turn(candles, turn)[0] for turn in itertools.permutations(range(len(candles)))]
    return lasting.count(best)


class Turns(unittest.TestCase):
    def test_no_candles_have_one_turn(self):
        told(self, 1, turns, ())

    def test_one_candle(self):
        told(self, 1, turns, ((5, 0, 1),))

    def test_some_turns_only(self):
        # 1 has to be lit ahead of 0; when 2 is lit makes no odds.
        told(self, 3, turns, ABC)
        told(self, 1, turns, ((3, 3, 1), (3, 0, 1)))
        told(self, 2, turns, ((3, 3, 1), (3, 3, 1)))
        told(self, 2, turns, ((9, 0, 1), (3, 0, 1)))

    def test_like_candles_have_turns_of_their_own(self):
        told(self, 24, turns, ((2, 99, 1),) * 4)

    def test_eight_candles(self):
        told(self, 40320, turns, ((99, 999, 99),) * 8)
        told(self, 40320, turns, ((99, 0, 99),) * 8)
        # Each can only be lit as the one ahead of it burns out.
        told(self, 1, turns, tuple((3, 3 * number, 1) for number in range(8)))

    def test_small_candles_one_turn_by_one(self):
        kinds = [(length, damp, 1) for length in (1, 2, 4) for damp in (0, 1, 3, 4)]
        for many in range(4):
            for candles in itertools.product(kinds, repeat=many):
                self.assertEqual(turns(candles), plain_turns(candles), candles)

    def test_mixed_candles_one_turn_by_one(self):
        for seed in range(30):
            candles = mixed_candles(5, seed, 5, 9)
            self.assertEqual(turns(candles), plain_turns(candles), candles)


class Refused(unittest.TestCase):
    def test_nine_candles_and_more(self):
        for many in range(9, 13):
            refused(self, TooMany, None, turns, ((5, 0, 1),) * many)

    def test_behind_bad_candles(self):
        refused(self, BadCandles, 12, turns, ((5, 0, 1),) * 13)
        refused(self, BadCandles, 8, turns, ((5, 0, 1),) * 8 + ((0, 0, 1),))
        refused(self, BadCandles, 0, turns, None)


if __name__ == "__main__":
    unittest.main()
