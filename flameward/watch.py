"""The longest watch with a plan of it, the bounds that no plan passes, and plans judged."""

from flameward.checks import check_candles, check_lot, check_turn, is_candle_number, is_within
from flameward.errors import BadPlan
from flameward.lighting import all_numbers, by_latest_end, latest_end, lit_in_turn


def longest(candles):
    """Tell (time, plan): the longest watch, and a plan of it."""
    check_candles(candles)
    # No turn lasts longer than this one: it comes to the least of the bounds.
    return planned(candles, by_latest_end(candles, all_numbers(candles)))


def by_turn(candles, turn):
    """Tell (time, plan) of the watch in which the candles are lit in this turn."""
    check_candles(candles)
    check_turn(candles, turn)
    return planned(candles, turn)


def bounds(candles, lot, limit):
    """Tell the bound by the lengths together (limit None), or by a candle of the lot; else None."""
    check_candles(candles)
    check_lot(candles, lot)
    if limit is None:
        return lengths_together(candles, lot)
    # True equals 1, and would be found in a lot that holds the candle 1.
    if not is_candle_number(candles, limit) or limit not in lot:
        return None
    return bound_by_candle(candles, lot, limit)


def bound(candles, lot):
    """Tell the least bound of the lot, as (time, candle) or (time, None)."""
    check_candles(candles)
    check_lot(candles, lot)
    least = (lengths_together(candles, lot), None)
    for number in lot:
        time = bound_by_candle(candles, lot, number)
        # A bound that is only as low does not count: None comes first, then the first candle.
        if time < least[0]:
            least = (time, number)
    return least


def judged(candles, plan):
    """Tell how long the watch of this plan lasts."""
    check_candles(candles)
    if not isinstance(plan, list):
        raise BadPlan(0)
    lit = []
    earliest = 0
    lasts = 0
    for place, step in enumerate(plan):
        if not is_step(candles, step):
            raise BadPlan(place)
        number, time = step
        length, damp, _ = candles[number]
        # Each one was lit from a flame, so one of them burns at any time up to the last end.
        if number in lit or not is_within(time, earliest, min(damp, lasts)):
            raise BadPlan(place)
        lit.append(number)
        earliest = time
        lasts = max(lasts, time + length)
    return lasts


def is_step(candles, step):
    return isinstance(step, tuple) and len(step) == 2 and is_candle_number(candles, step[0])


def planned(candles, turn):
    lasts, steps = lit_in_turn(candles, turn, 0)
    return lasts, [(number, time) for time, number in sorted(steps)]


def lengths_together(candles, lot):
    return sum([candles[number][0] for number in lot])


def bound_by_candle(candles, lot, limit):
    end = latest_end(candles[limit])
    later = [number for number in lot if latest_end(candles[number]) > end]
    return end + lengths_together(candles, later)
