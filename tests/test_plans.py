"""[3]: plans, judged."""

import itertools
import unittest

from flameward.errors import BadPlan
from flameward.watch import judged
from samples import ABC, NO_NUMBERS, WRONG_KINDS, plain_judged, refused, told

# Lengths 5, 3, 4 and 2; damp only late.
LATE = ((5, 99, 1), (3, 99, 1), (4, 99, 1), (2, 99, 1))


class Judged(unittest.TestCase):
    def test_empty_plan(self):
        told(self, 0, judged, ABC, [])
        told(self, 0, judged, (), [])

    def test_one_candle(self):
        told(self, 5, judged, ABC, [(0, 0)])
        told(self, 99, judged, ((99, 0, 1),), [(0, 0)])

    def test_to_the_greatest_end_not_the_last(self):
        told(self, 9, judged, ABC, [(1, 0), (2, 1)])
        told(self, 9, judged, ABC, [(1, 0), (0, 0), (2, 2)])
        told(self, 14, judged, ABC, [(1, 0), (0, 9)])

    def test_lit_as_the_flame_just_burns_out(self):
        told(self, 8, judged, LATE, [(0, 0), (1, 5)])
        told(self, 14, judged, LATE, [(0, 0), (1, 5), (2, 8), (3, 12)])

    def test_lit_while_one_further_ahead_burns(self):
        # Candle 3 is out at 2; candle 0 burns yet.
        told(self, 9, judged, LATE, [(0, 0), (3, 0), (2, 5)])
        told(self, 7, judged, LATE, [(0, 0), (3, 0), (1, 4)])

    def test_lit_at_its_damp_but_not_behind_it(self):
        candles = ((9, 0, 1), (4, 6, 1), (1, 999, 1))
        told(self, 10, judged, candles, [(0, 0), (1, 6)])
        refused(self, BadPlan, 1, judged, candles, [(0, 0), (1, 7)])

    def test_like_times_in_any_order(self):
        told(self, 5, judged, LATE, [(3, 0), (0, 0), (1, 0)])
        told(self, 9, judged, LATE, [(0, 0), (2, 5), (1, 5)])

    def test_against_a_plain_judge(self):
        candles = ((2, 1, 1), (1, 4, 1), (3, 2, 1))
        steps = [(number, time) for number in range(3) for time in range(-1, 6)]
        for many in range(4):
            for plan in itertools.product(steps, repeat=many):
                plan = list(plan)
                wanted = plain_judged(candles, plan)
                if wanted is not None:
                    self.assertEqual(judged(candles, plan), wanted, plan)
                    continue
                first = next(n for n in range(many) if plain_judged(candles, plan[:n + 1]) is None)
                with self.assertRaises(BadPlan) as caught:
                    judged(candles, plan)
                self.assertEqual(caught.exception.number, first, plan)


class Refused(unittest.TestCase):
    def refuse(self, number, plan, candles=LATE):
        refused(self, BadPlan, number, judged, candles, plan)

    def test_no_list(self):
        for wrong in WRONG_KINDS + ((), ((0, 0),), ((0, 0), (1, 5))):
            self.refuse(0, wrong)

    def test_no_pair(self):
        for wrong in (None, True, 0, "", "00", (), (1,), (1, 1, 1), [1, 1], {}, ((1, 1),)):
            self.refuse(0, [wrong])
            self.refuse(1, [(0, 0), wrong, (2, 5)])

    def test_no_candle_s_number(self):
        for wrong in NO_NUMBERS + (-1, 4, 12, 10 ** 30):
            self.refuse(0, [(wrong, 0)])
            self.refuse(1, [(0, 0), (wrong, 1)])
        self.refuse(0, [(0, 0)], ())

    def test_no_time(self):
        for wrong in NO_NUMBERS + (-1, -(10 ** 30), 10 ** 30):
            self.refuse(0, [(0, wrong)])
            self.refuse(1, [(0, 0), (1, wrong)])

    def test_the_first_not_at_time_0(self):
        self.refuse(0, [(0, 1)])
        self.refuse(0, [(0, 1), (1, 1)])

    def test_without_flame(self):
        self.refuse(1, [(0, 0), (1, 6)])
        self.refuse(2, [(3, 0), (1, 2), (2, 6)])

    def test_lit_already(self):
        self.refuse(1, [(0, 0), (0, 0)])
        self.refuse(2, [(0, 0), (1, 1), (0, 4)])

    def test_times_fall(self):
        self.refuse(2, [(0, 0), (1, 4), (2, 3)])
        self.refuse(3, [(0, 0), (1, 4), (2, 4), (3, 0)])

    def test_the_first_of_several(self):
        self.refuse(1, [(0, 0), (1, 6), (0, 0), None])
        self.refuse(2, [(0, 0), (1, 5), (1, 5), (9, 9)])
        self.refuse(0, [None, (0, 0), (0, 0)])


if __name__ == "__main__":
    unittest.main()
