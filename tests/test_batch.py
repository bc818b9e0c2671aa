"""[12]: deeds in batches."""

import unittest

from flameward.errors import BadDeed, Halted
from flameward.night import Night
from nights import Chance, PlainNight, answers
from samples import ABC, Untouched, refused, small_candles
from test_night import NO_DEEDS

# Each is of such a word and one thing, but none can be done by ABC at time 0.
IMPOSSIBLE = (
    ("light", 3), ("light", -1), ("light", True), ("light", None), ("light", "0"), ("light", [0]), ("light", (5, 12, 3)),
    ("wait", 0), ("wait", 10000), ("wait", False), ("wait", ()), ("get", (0, 12, 3)), ("get", [5, 12, 3]), ("get", 5),
    ("get", None), ("lose", 3), ("lose", True), ("lose", {}),
)


def halted(test, number, done, call):
    with test.assertRaises(Halted) as caught:
        call()
    test.assertIs(caught.exception.__class__, Halted)
    test.assertEqual(repr((caught.exception.number, caught.exception.done)), repr((number, done)))


class Batch(unittest.TestCase):
    def test_tells_what_each_tells(self):
        deeds = [("light", 0), ("light", 1), ("get", (3, 9, 1)), ("wait", 9), ("lose", 3), ("wait", 1)]
        one, other = Night(ABC), Night(ABC)
        self.assertEqual(one.batch(deeds), [other.do(deed) for deed in deeds])
        self.assertEqual(one.batch([("wait", 1)], keep=False), [other.do(("wait", 1))])
        self.assertEqual(answers(one), answers(other))

    def test_no_deeds(self):
        night = Night(ABC)
        for keep in (True, False):
            self.assertEqual(night.batch([], keep=keep), [])
        self.assertEqual(answers(night), answers(Night(ABC)))
        self.assertIs(night.back(), False)

    def test_kinds(self):
        self.assertIs(type(Night(ABC).batch([])), list)
        self.assertIs(type(Night(ABC).batch([("wait", 1)])), list)

    def test_back_takes_the_last_one_back(self):
        night = Night(ABC)
        night.batch([("light", 1), ("wait", 2), ("light", 0)])
        self.assertIs(night.back(), True)
        self.assertEqual(night.deeds(), [("light", 1), ("wait", 2)])
        self.assertIs(night.back(), True)
        self.assertIs(night.back(), True)
        self.assertIs(night.back(), False)

    def test_keep_is_handed_in_by_its_name(self):
        with self.assertRaises(TypeError):
            Night(ABC).batch([], True)


class Stopped(unittest.TestCase):
    def test_all_ahead_stand_if_keep(self):
        for wrong in IMPOSSIBLE:
            night = Night(ABC)
            halted(self, 2, 2, lambda: night.batch([("light", 1), ("wait", 2), wrong, ("wait", 1)]))
            self.assertEqual(night.deeds(), [("light", 1), ("wait", 2)])
            halted(self, 0, 0, lambda: night.batch([wrong, ("wait", 1)], keep=True))
            halted(self, 1, 1, lambda: night.batch([("wait", 1), wrong], keep=True))
            self.assertEqual(night.time(), 3)
            self.assertEqual(night.deeds(), [("light", 1), ("wait", 2), ("wait", 1)])

    def test_none_stands_else(self):
        for wrong in IMPOSSIBLE:
            night = Night(ABC)
            night.batch([("light", 1), ("wait", 2)])
            ahead = answers(night)
            deeds = [("get", (4, 9, 1)), ("light", 3), ("lose", 0), ("wait", 99), wrong, ("wait", 1)]
            if wrong in (("light", 3), ("lose", 3)):
                wrong = deeds[4] = (wrong[0], 4)
            halted(self, 4, 0, lambda: night.batch(deeds, keep=False))
            halted(self, 0, 0, lambda: night.batch([wrong], keep=False))
            self.assertEqual(answers(night), ahead)
            self.assertIs(night.back(), True)
            self.assertEqual(night.deeds(), [("light", 1)])

    def test_what_the_ones_ahead_made_impossible(self):
        night = Night(ABC)
        halted(self, 1, 0, lambda: night.batch([("light", 1), ("light", 1)], keep=False))
        halted(self, 1, 0, lambda: night.batch([("lose", 1), ("light", 1)], keep=False))
        halted(self, 1, 0, lambda: night.batch([("wait", 1), ("light", 0)], keep=False))
        halted(self, 2, 0, lambda: night.batch([("light", 1), ("wait", 10), ("light", 0)], keep=False))
        halted(self, 2, 0, lambda: night.batch([("light", 1), ("wait", 3), ("light", 2)], keep=False))
        halted(self, 9, 0, lambda: night.batch([("get", (5, 12, 3))] * 10, keep=False))
        self.assertEqual(answers(night), answers(Night(ABC)))
        halted(self, 9, 9, lambda: night.batch([("get", (5, 12, 3))] * 10))
        self.assertEqual(night.unlit(), list(range(12)))


class Refused(unittest.TestCase):
    def test_no_list(self):
        night = Night(ABC)
        for wrong in (None, True, False, 0, 5, "", "wait", (), (("wait", 1),), ("wait", 1), {}):
            refused(self, BadDeed, 0, night.batch, wrong)
        self.assertEqual(answers(night), answers(Night(ABC)))

    def test_no_deed_ahead_of_anything_done(self):
        for wrong in NO_DEEDS:
            night = Night(ABC)
            for keep in (True, False):
                with Untouched(self, wrong), self.assertRaises(BadDeed) as caught:
                    night.batch([("light", 1), ("wait", 2), wrong, None], keep=keep)
                self.assertEqual(caught.exception.number, 2)
                with self.assertRaises(BadDeed) as caught:
                    night.batch([wrong], keep=keep)
                self.assertEqual(caught.exception.number, 0)
            self.assertEqual(answers(night), answers(Night(ABC)))

    def test_no_deed_ahead_of_one_that_can_not_be_done(self):
        night = Night(ABC)
        for wrong in IMPOSSIBLE:
            refused(self, BadDeed, 3, night.batch, [("wait", 1), wrong, wrong, ("burn", 0)])
        self.assertEqual(answers(night), answers(Night(ABC)))


class NothingIsKept(unittest.TestCase):
    def test_the_list_handed_in_may_be_changed(self):
        night = Night(ABC)
        deeds = [("light", 1), ("wait", 2)]
        with Untouched(self, deeds):
            told = night.batch(deeds)
        ahead = answers(night)
        deeds.append(("wait", 3))
        deeds[0] = None
        told.clear()
        self.assertEqual(answers(night), ahead)
        self.assertIs(night.back(), True)
        self.assertEqual(night.deeds(), [("light", 1)])

    def test_what_deeds_tells_can_be_done_by_another_night(self):
        one = Night(ABC)
        one.batch([("light", 1), ("get", (3, 9, 1)), ("wait", 2), ("lose", 2)])
        other = Night(ABC)
        other.batch(one.deeds())
        self.assertEqual(answers(other), answers(one))
        one.batch(one.deeds()[2:3])
        self.assertEqual(one.time(), 4)


class OwnGoing(unittest.TestCase):
    def check(self, night, plain, deeds, keep):
        standing = list(plain.done)
        told = []
        for number, deed in enumerate(deeds):
            if plain.can(deed):
                told.append(plain.do(deed))
                continue
            if not keep:
                plain.done = standing
                plain.replay()
            halted(self, number, number if keep else 0, lambda: night.batch(deeds, keep=keep))
            return
        self.assertEqual(night.batch(deeds, keep=keep), told)

    def test_batches_without_a_pattern(self):
        for seed, candles in enumerate(small_candles(60, 3, 5, 8)):
            chance, night, plain = Chance(seed + 100), Night(candles), PlainNight(candles)
            for _ in range(15):
                deeds = [chance.deed() for _ in range(chance.below(4))]
                with Untouched(self, deeds):
                    self.check(night, plain, deeds, chance.below(2) == 0)
                self.assertEqual(answers(night), repr(plain.answers()))
                if chance.below(2) == 0:
                    self.assertIs(night.back(), plain.back())
                    self.assertEqual(answers(night), repr(plain.answers()))


if __name__ == "__main__":
    unittest.main()
