"""[10] and [11]: a night gone through by deeds, there and back, and what it tells."""

import unittest

from flameward.errors import BadCandles, BadDeed, Halted
from flameward.night import Night
from flameward.watch import longest
from nights import Chance, PlainNight, answers
from samples import ABC, NO_NUMBERS, Untouched, refused, small_candles, told

GOOD = (5, 12, 3)
NO_DEEDS = (
    None, True, False, 0, 5, "", "light", "wait 1", (), [], ("light",), ("wait",), ("light", 0, 0), ["light", 0],
    ["wait", 1], ("burn", 0), ("Light", 0), ("light ", 0), ("", 0), (None, 0), (0, "light"), (True, 1), (0, 0),
    (["light"], 0), (("light",), 0), (("light", 0),), (("light", 0), ("wait", 1)),
)


def gone_through(candles, *deeds):
    night = Night(candles)
    for deed in deeds:
        night.do(deed)
    return night


class Begun(unittest.TestCase):
    def test_at_time_0_with_none_lit(self):
        night = Night(ABC)
        told(self, 0, night.time)
        told(self, [], night.burning)
        told(self, [0, 1, 2], night.unlit)
        told(self, [], night.deeds)
        told(self, 14, night.best)
        told(self, False, night.back)

    def test_without_candles(self):
        night = Night(())
        told(self, 0, night.best)
        told(self, [], night.unlit)
        self.assertEqual(night.do(("wait", 1)), 0)
        self.assertEqual(night.do(("get", GOOD)), 0)

    def test_best_is_the_longest_watch(self):
        for candles in small_candles(20):
            self.assertEqual(Night(candles).best(), longest(candles)[0])

    def test_bad_candles(self):
        refused(self, BadCandles, 0, Night, [GOOD])
        refused(self, BadCandles, 1, Night, (GOOD, (0, 1, 1)))
        refused(self, BadCandles, 12, Night, (GOOD,) * 13)


class Deeds(unittest.TestCase):
    def refuse(self, night, deed):
        ahead = answers(night)
        refused(self, BadDeed, 0, night.do, deed)
        self.assertEqual(answers(night), ahead, deed)

    def test_do_tells_best_behind_it(self):
        night = Night(ABC)
        self.assertEqual(night.do(("light", 0)), 9)
        self.assertEqual(night.do(("light", 1)), 9)
        self.assertEqual(night.do(("wait", 2)), 9)
        self.assertEqual(night.do(("get", (3, 9, 1))), 12)
        self.assertEqual(night.do(("lose", 3)), 9)
        self.assertEqual(night.do(("wait", 9999)), 9)

    def test_all_answers_behind_each(self):
        night = gone_through(ABC, ("light", 1), ("wait", 2))
        told(self, 2, night.time)
        told(self, [(1, 9)], night.burning)
        told(self, [0, 2], night.unlit)
        told(self, [("light", 1), ("wait", 2)], night.deeds)
        told(self, 14, night.best)
        night.do(("light", 2))
        told(self, [(1, 9), (2, 6)], night.burning)
        told(self, [0], night.unlit)
        night.do(("wait", 5))
        told(self, 7, night.time)
        told(self, [(1, 9)], night.burning)

    def test_light_at_the_damp_and_behind_it(self):
        night = gone_through(ABC, ("light", 1), ("wait", 2))
        self.assertEqual(night.unlit(), [0, 2])
        self.assertEqual(night.do(("light", 2)), 14)
        night = gone_through(ABC, ("light", 1), ("wait", 3))
        self.assertEqual(night.unlit(), [0])
        self.refuse(night, ("light", 2))

    def test_light_as_the_last_just_burns_out_and_behind_that(self):
        night = gone_through(ABC, ("light", 1), ("wait", 9))
        told(self, [(1, 9)], night.burning)
        told(self, 14, night.best)
        self.assertEqual(night.do(("light", 0)), 14)
        night = gone_through(ABC, ("light", 1), ("wait", 10))
        told(self, [], night.burning)
        told(self, [0], night.unlit)
        told(self, 9, night.best)
        self.refuse(night, ("light", 0))

    def test_the_flame_stands_at_time_0_alone_if_none_is_lit(self):
        night = gone_through(ABC, ("wait", 1))
        told(self, 0, night.best)
        told(self, [0, 2], night.unlit)
        self.refuse(night, ("light", 0))

    def test_once_out_it_is_out(self):
        night = gone_through(ABC, ("light", 2), ("wait", 5), ("get", (9, 999, 1)))
        told(self, [0, 3], night.unlit)
        told(self, 4, night.best)
        self.refuse(night, ("light", 3))
        self.assertEqual(night.do(("wait", 3)), 4)
        self.assertEqual(night.do(("lose", 0)), 4)
        told(self, 8, night.time)

    def test_lit_or_lost_already(self):
        night = gone_through(ABC, ("light", 1), ("lose", 0))
        for number in (0, 1):
            self.refuse(night, ("light", number))
            self.refuse(night, ("lose", number))
        night.do(("wait", 50))
        self.refuse(night, ("lose", 1))

    def test_a_damp_one_can_be_lost(self):
        night = gone_through(ABC, ("light", 0), ("wait", 4))
        self.refuse(night, ("light", 2))
        self.assertEqual(night.do(("lose", 2)), 5)
        self.refuse(night, ("lose", 2))

    def test_a_candle_got_is_numbered_on_lit_and_lost(self):
        night = Night(ABC)
        self.refuse(night, ("light", 3))
        self.assertEqual(night.do(("get", (7, 20, 1))), 21)
        self.assertEqual(night.do(("lose", 3)), 14)
        self.assertEqual(night.do(("get", (2, 20, 1))), 16)
        told(self, [0, 1, 2, 4], night.unlit)
        self.assertEqual(night.do(("light", 4)), 14)
        told(self, [(4, 2)], night.burning)

    def test_a_thirteenth(self):
        night = Night((GOOD,) * 11)
        night.do(("get", GOOD))
        self.refuse(night, ("get", GOOD))
        # A lost one keeps its number: one more would be a thirteenth all the same.
        night.do(("lose", 0))
        self.refuse(night, ("get", GOOD))

    def test_the_ends_of_a_wait(self):
        night = Night(ABC)
        self.assertEqual(night.do(("wait", 1)), 0)
        self.assertEqual(night.do(("wait", 9999)), 0)
        self.assertEqual(night.do(("wait", 9999)), 0)
        told(self, 19999, night.time)
        for wrong in NO_NUMBERS + (0, -1, 10000, 10 ** 30):
            self.refuse(night, ("wait", wrong))

    def test_the_ends_of_a_candle_got(self):
        night = gone_through((), ("get", (1, 0, 1)), ("get", (99, 999, 99)))
        told(self, 99 + 1, night.best)
        wrong = ((0, 0, 1), (100, 0, 1), (1, -1, 1), (1, 1000, 1), (1, 0, 0), (1, 0, 100), (1, 0), (1, 0, 1, 1))
        for candle in wrong + ([1, 0, 1], (True, 0, 1), (1, False, 1), (1, 0, "1"), ((1, 0, 1),)):
            self.refuse(night, ("get", candle))
        for thing in NO_NUMBERS + (0, 1):
            self.refuse(night, ("get", thing))

    def test_no_candle(self):
        night = Night(ABC)
        for wrong in NO_NUMBERS + (-1, 3, 12, 10 ** 30):
            self.refuse(night, ("light", wrong))
            self.refuse(night, ("lose", wrong))

    def test_no_deed(self):
        night = gone_through(ABC, ("light", 1), ("wait", 1))
        for wrong in NO_DEEDS:
            self.refuse(night, wrong)

    def test_like_ends_rise_by_numbers(self):
        night = gone_through(((5, 9, 1),) * 3, ("light", 2), ("light", 0), ("light", 1))
        told(self, [(0, 5), (1, 5), (2, 5)], night.burning)

    def test_kinds(self):
        night = gone_through(ABC, ("light", 1))
        self.assertEqual([type(night.best()), type(night.time())], [int, int])
        for answer in (night.burning(), night.unlit(), night.deeds()):
            self.assertIs(type(answer), list)
        self.assertIs(type(night.burning()[0]), tuple)
        self.assertIs(night.back(), True)
        self.assertIs(night.back(), False)


class Back(unittest.TestCase):
    def test_each_deed_in_turn(self):
        night = Night(ABC)
        ahead = []
        deeds = (("light", 1), ("wait", 2), ("get", (4, 9, 1)), ("light", 3), ("lose", 2), ("wait", 99), ("lose", 0))
        for deed in deeds:
            ahead.append(answers(night))
            night.do(deed)
        while ahead:
            self.assertIs(night.back(), True)
            self.assertEqual(answers(night), ahead.pop())
        self.assertIs(night.back(), False)
        self.assertEqual(answers(night), answers(Night(ABC)))

    def test_what_was_taken_back_can_be_done_again(self):
        night = Night((GOOD,) * 11)
        for deed in (("get", (7, 9, 1)), ("light", 4), ("lose", 5), ("wait", 99)):
            first = night.do(deed)
            behind = answers(night)
            self.assertIs(night.back(), True)
            self.assertEqual(night.do(deed), first)
            self.assertEqual(answers(night), behind)

    def test_a_flame_that_was_out_stands_again(self):
        night = gone_through(ABC, ("light", 1), ("wait", 10))
        self.assertIs(night.back(), True)
        self.assertEqual(night.do(("wait", 9)), 14)
        self.assertEqual(night.do(("light", 0)), 14)

    def test_another_candle_got_takes_the_number(self):
        night = gone_through(ABC, ("get", (7, 20, 1)))
        night.back()
        self.assertEqual(night.do(("get", (1, 20, 1))), 15)
        self.assertEqual(night.unlit(), [0, 1, 2, 3])

    def test_a_refused_deed_is_none_to_take_back(self):
        night = gone_through(ABC, ("light", 1))
        refused(self, BadDeed, 0, night.do, ("light", 1))
        self.assertIs(night.back(), True)
        self.assertIs(night.back(), False)


class NothingIsKept(unittest.TestCase):
    def test_lists_that_were_told_may_be_changed(self):
        night = gone_through(ABC, ("light", 1), ("wait", 1))
        ahead = answers(night)
        for call in (night.burning, night.unlit, night.deeds):
            call().append("more")
            call().clear()
            self.assertIsNot(call(), call())
            self.assertEqual(answers(night), ahead)
        self.assertIs(night.back(), True)

    def test_two_nights_of_the_same_candles(self):
        one, other = Night(ABC), Night(ABC)
        ahead = answers(other)
        one.batch([("get", GOOD), ("light", 3), ("lose", 0), ("wait", 3)])
        self.assertEqual(answers(other), ahead)

    def test_a_night_changes_nothing_handed_in(self):
        deed = ("get", GOOD)
        with Untouched(self, ABC, deed):
            night = gone_through(ABC, deed, ("light", 3), ("lose", 0), ("wait", 3))
            night.back()


class OwnGoing(unittest.TestCase):
    def go(self, chance, night, plain):
        if chance.below(4) == 0:
            self.assertIs(night.back(), plain.back())
            return
        deed = chance.deed()
        if plain.can(deed):
            self.assertEqual(night.do(deed), plain.do(deed))
            return
        with self.assertRaises(BadDeed) as caught:
            night.do(deed)
        self.assertEqual(caught.exception.number, 0)
        self.assertNotIsInstance(caught.exception, Halted)

    def test_deeds_without_a_pattern(self):
        for seed, candles in enumerate(small_candles(60, 3, 5, 8)):
            chance, night, plain = Chance(seed), Night(candles), PlainNight(candles)
            for _ in range(30):
                self.go(chance, night, plain)
                self.assertEqual(answers(night), repr(plain.answers()))


if __name__ == "__main__":
    unittest.main()
