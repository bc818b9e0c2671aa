"""Candles, wrong values and slow but plain answers, for the tests."""

import copy
import functools
import itertools

WRONG_KINDS = (None, True, False, 0, 5, "", "candle 5 12 3", {}, b"")

# What stands in a number's place, but is no whole number.
NO_NUMBERS = (None, True, False, "1", "", (), (1,), [], [1])

# What stands in a count's place, but is no count at all.
NO_COUNTS = (None, True, False, "1", "", (), (1,), [], -1, -(10 ** 30), 10 ** 30)

ABC = ((5, 12, 3), (9, 0, 1), (4, 2, 7))


@functools.lru_cache(maxsize=None)
def plain_longest(candles, lot):
    """Try every plan of the lot, step by step, and tell how long the best lasts."""
    best = 0
    todo = [((), 0, 0)]
    seen = set(todo)
    while todo:
        lit, now, lasts = todo.pop()
        best = max(best, lasts)
        for number in lot:
            length, damp, _ = candles[number]
            if number in lit:
                continue
            for time in range(now, min(damp, lasts) + 1):
                state = (tuple(sorted(lit + (number,))), time, max(lasts, time + length))
                if state not in seen:
                    seen.add(state)
                    todo.append(state)
    return best


def plain_judged(candles, plan):
    """Judge a plan by looking for flame among all that were lit ahead; None if it can't be."""
    burnt = []
    ends = [0]
    for place, (number, time) in enumerate(plan):
        length, damp, _ = candles[number]
        flame = time == 0 if place == 0 else any(a <= time <= b for a, b in burnt)
        ahead = plan[place - 1][1] if place else 0
        twice = any(number == other for other, _ in plan[:place])
        if not flame or twice or not 0 <= time <= damp or time < ahead:
            return None
        burnt.append((time, time + length))
        ends.append(time + length)
    return max(ends)


def all_lots(many):
    for size in range(many + 1):
        yield from itertools.combinations(range(many), size)


def plain_keeping(candles, time):
    """All lots that keep to the time, by every plan of each."""
    return [lot for lot in all_lots(len(candles)) if plain_longest(candles, lot) >= time]


def price_of(candles, lot):
    return sum(candles[number][2] for number in lot)


def cheap(candles):
    """The same candles with prices of which many are like."""
    return tuple((length, damp, price % 3 + 1) for length, damp, price in candles)


def small_candles(seeds, many=4, lengths=4, damps=6):
    """Candles for which all plans can be tried; each time the same."""
    return [cheap(mixed_candles(many, seed, lengths, damps)) for seed in range(seeds)]


def mixed_candles(many, seed, lengths=99, damps=999):
    """Candles without a pattern, but the same ones each time."""
    made = []
    for _ in range(many):
        row = []
        for low, count in ((1, lengths), (0, damps + 1), (1, 99)):
            seed = (seed * 1103515245 + 12345) & 0x7FFFFFFF
            row.append(low + (seed >> 8) % count)
        made.append(tuple(row))
    return tuple(made)


class Untouched:
    """Fails the test if what is handed in is another behind the block."""

    def __init__(self, test, *handed):
        self.test = test
        self.handed = handed
        # repr tells True from 1, and a list from a tuple, where == may not.
        self.ahead = repr(copy.deepcopy(handed))

    def __enter__(self):
        return self

    def __exit__(self, kind, value, trace):
        self.test.assertEqual(repr(self.handed), self.ahead)


def refused(test, error, number, call, *handed):
    """Check that the call is refused by that very error (number None: it has none), twice, and changes nothing."""
    for _ in range(2):
        with Untouched(test, *handed):
            with test.assertRaises(error) as caught:
                call(*handed)
        test.assertIs(caught.exception.__class__, error, handed)
        test.assertEqual(repr(getattr(caught.exception, "number", None)), repr(number), handed)


def told(test, worth, call, *handed):
    """Check what the call tells, twice, and that it changes nothing."""
    for _ in range(2):
        with Untouched(test, *handed):
            answer = call(*handed)
        test.assertEqual(repr(answer), repr(worth), handed)
