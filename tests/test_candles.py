"""[1] and [2]: what candles, lots and turns are, and which refusal comes first."""

import unittest

from flameward.errors import BadCandles, BadLot, BadPlan
from flameward.lots import cheapest, fewest, keeps, lean, one_more, robbed, slack, spare, turns, two
from flameward.night import Night
from flameward.notes import written
from flameward.watch import bound, bounds, by_turn, judged, longest
from samples import ABC, NO_NUMBERS, WRONG_KINDS, refused, told

GOOD = (5, 12, 3)
WRONG_CANDLES = (
    (), (5,), (5, 12), (5, 12, 3, 1), [5, 12, 3], [], None, True, False, 0, 5, "", "5 12 3", {},
    (0, 12, 3), (100, 12, 3), (-1, 12, 3), (5, -1, 3), (5, 1000, 3), (5, 12, 0), (5, 12, 100),
    (5, 12, -1), (10 ** 30, 12, 3), (5, -(10 ** 30), 3),
)
CALLS = (
    longest,
    lambda candles: by_turn(candles, ()),
    lambda candles: bound(candles, ()),
    lambda candles: bounds(candles, (), None),
    lambda candles: judged(candles, []),
    lambda candles: keeps(candles, (), 0),
    lambda candles: cheapest(candles, 0),
    lambda candles: fewest(candles, 0),
    lambda candles: spare(candles, 0),
    lambda candles: lean(candles, 0),
    lambda candles: one_more(candles, 0, 0),
    lambda candles: robbed(candles, 0),
    Night,
    written,
)
# These refuse some candles that can be, too; but all that can't be, as the others do.
OTHER_CALLS = (
    turns,
    lambda candles: two(candles, 0),
    lambda candles: slack(candles, 0, 0),
)


class Candles(unittest.TestCase):
    def refuse(self, number, candles):
        for call in CALLS + OTHER_CALLS:
            refused(self, BadCandles, number, call, candles)

    def test_none_to_twelve_candles_can_be(self):
        for many in range(13):
            candles = (GOOD,) * many
            for call in CALLS:
                call(candles)
            for call in OTHER_CALLS if 1 <= many <= 8 else ():
                call(candles)

    def test_a_thirteenth_can_not_be(self):
        self.refuse(12, (GOOD,) * 13)
        self.refuse(12, (GOOD,) * 14)
        self.refuse(12, (GOOD,) * 12 + (None,))
        self.refuse(12, (GOOD,) * 13 + (None,))

    def test_one_ahead_of_a_thirteenth_is_told_first(self):
        self.refuse(11, (GOOD,) * 11 + ((0, 0, 1), GOOD))
        self.refuse(0, (None,) + (GOOD,) * 12)

    def test_no_tuple(self):
        for wrong in WRONG_KINDS + ([], [GOOD], [GOOD] * 13):
            self.refuse(0, wrong)

    def test_ends_of_the_numbers(self):
        for candle in ((1, 0, 1), (99, 0, 1), (1, 999, 1), (1, 0, 99), (99, 999, 99)):
            told(self, (candle[0], [(0, 0)]), longest, (candle,))

    def test_wrong_candles_at_each_place(self):
        for wrong in WRONG_CANDLES:
            for place in range(3):
                candles = (GOOD,) * place + (wrong,) + (GOOD,) * (2 - place)
                self.refuse(place, candles)

    def test_no_number_in_a_number_s_place(self):
        for wrong in NO_NUMBERS:
            for candle in ((wrong, 12, 3), (5, wrong, 3), (5, 12, wrong)):
                self.refuse(1, (GOOD, candle))

    def test_the_first_of_several(self):
        self.refuse(1, (GOOD, (0, 0, 1), GOOD, None))
        self.refuse(2, (GOOD, GOOD, (5, 1000, 3), (100, 0, 1)))


class Lots(unittest.TestCase):
    def refuse(self, number, candles, lot):
        refused(self, BadLot, number, bound, candles, lot)
        for time in (0, 9999, 10000, None):
            refused(self, BadLot, number, keeps, candles, lot, time)
        for limit in (None, 0, 1, 77, True, "x"):
            refused(self, BadLot, number, bounds, candles, lot, limit)

    def refuse_turn(self, number, candles, turn):
        refused(self, BadLot, number, by_turn, candles, turn)

    def test_lots_that_can_be(self):
        for lot in ((), (0,), (2,), (0, 1), (0, 2), (1, 2), (0, 1, 2)):
            bound(ABC, lot)
            by_turn(ABC, lot)
            keeps(ABC, lot, 0)

    def test_no_tuple(self):
        for wrong in WRONG_KINDS + ([], [0], [0, 1]):
            self.refuse(0, ABC, wrong)
            self.refuse_turn(0, ABC, wrong)

    def test_a_number_of_no_candle(self):
        for wrong in NO_NUMBERS + (-1, 3, 12, 10 ** 30):
            self.refuse(0, ABC, (wrong,))
            self.refuse(1, ABC, (0, wrong, 1))
            self.refuse_turn(0, ABC, (wrong, 1))
            self.refuse_turn(2, ABC, (1, 0, wrong))

    def test_no_number_can_be_where_there_is_no_candle(self):
        self.refuse(0, (), (0,))
        self.refuse_turn(0, (), (0,))

    def test_a_lot_rises(self):
        self.refuse(1, ABC, (1, 0))
        self.refuse(1, ABC, (1, 0, 2))
        self.refuse(2, ABC, (0, 2, 1))
        self.refuse(1, ABC, (0, 0))
        self.refuse(2, ABC, (0, 1, 1))
        self.refuse(2, ABC, (0, 1, 0))

    def test_a_turn_has_each_candle_once(self):
        self.refuse_turn(1, ABC, (0, 0))
        self.refuse_turn(2, ABC, (2, 0, 2))
        self.refuse_turn(3, ABC, (2, 0, 1, 1))

    def test_the_first_of_several(self):
        self.refuse(1, ABC, (0, 3, 0))
        self.refuse(2, ABC, (0, 1, 1, None))
        self.refuse_turn(1, ABC, (2, 2, None))
        self.refuse_turn(0, ABC, (True, 1, 1))

    def test_like_candles_have_numbers_of_their_own(self):
        candles = (GOOD, GOOD)
        self.assertEqual(bound(candles, (0, 1)), (10, None))
        self.assertEqual(by_turn(candles, (1, 0))[0], 10)


class HandedInFirstIsRefusedFirst(unittest.TestCase):
    def test_candles_ahead_of_all_else(self):
        candles = (GOOD, None, 3)
        refused(self, BadCandles, 1, by_turn, candles, None)
        refused(self, BadCandles, 1, by_turn, candles, (7,))
        refused(self, BadCandles, 1, bound, candles, [0])
        refused(self, BadCandles, 1, bound, candles, (0, 0))
        refused(self, BadCandles, 1, bounds, candles, None, "x")
        refused(self, BadCandles, 1, judged, candles, None)
        refused(self, BadCandles, 1, judged, candles, [(7, 7)])

    def test_each_but_the_candles_where_these_can_be(self):
        refused(self, BadLot, 0, by_turn, ABC, None)
        refused(self, BadLot, 0, bound, ABC, [0])
        refused(self, BadLot, 1, bounds, ABC, (0, 0), "x")
        refused(self, BadPlan, 0, judged, ABC, None)


class NothingIsKept(unittest.TestCase):
    def test_a_refusal_changes_no_later_answer(self):
        refused(self, BadCandles, 0, longest, [GOOD])
        told(self, (5, [(0, 0)]), longest, (GOOD,))
        refused(self, BadPlan, 1, judged, (GOOD,), [(0, 0), (0, 0)])
        told(self, 5, judged, (GOOD,), [(0, 0)])

    def test_a_plan_that_is_told_may_be_changed(self):
        for call in (longest, lambda candles: by_turn(candles, (0, 2))):
            first = call(ABC)
            kept = (first[0], list(first[1]))
            first[1].append("more")
            first[1].reverse()
            self.assertEqual(call(ABC), kept)
            self.assertIsNot(call(ABC)[1], call(ABC)[1])

    def test_a_plan_that_was_judged_may_be_changed(self):
        plan = [(0, 0)]
        self.assertEqual(judged(ABC, plan), 5)
        plan.append((2, 2))
        self.assertEqual(judged(ABC, plan), 6)
        plan.clear()
        self.assertEqual(judged(ABC, plan), 0)


if __name__ == "__main__":
    unittest.main()
