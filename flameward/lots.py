"""Lots that keep to a time, what could be spared, what is missing, and what losses do."""

from itertools import combinations, permutations

from flameward.checks import LATEST_DAMP, LONGEST_LENGTH, is_candle_number
from flameward.checks import check_candles, check_few, check_lot, check_time, check_within
from flameward.errors import BadCount, NoWatch
from flameward.lighting import all_numbers, lit_in_turn, longest_of

MOST_LOST = 3


def turns(candles):
    """Tell by how many turns of all candles the watch is the longest."""
    check_candles(candles)
    check_few(candles)
    best = longest_of(candles, all_numbers(candles))
    many = 0
    for turn in permutations(range(len(candles))):
        if lit_in_turn(candles, turn, 0)[0] == best:
            many += 1
    return many


def keeps(candles, lot, time):
    """Tell whether the longest watch of the lot lasts to the time."""
    check_candles(candles)
    check_lot(candles, lot)
    check_time(time)
    return lot_keeps(candles, lot, time)


def cheapest(candles, time):
    """Tell (price, lot) of a lot of the least price that keeps to the time, or None."""
    check_candles(candles)
    check_time(time)
    return min([(price_of(candles, lot), lot) for lot in keeping_lots(candles, time)], default=None)


def fewest(candles, time):
    """Tell (how many, lot) of a lot of the fewest candles that keeps to the time, or None."""
    check_candles(candles)
    check_time(time)
    return min([(len(lot), lot) for lot in keeping_lots(candles, time)], default=None)


def spare(candles, time):
    """Tell the candles without each of which alone the others keep to the time."""
    check_watch(candles, time)
    return [number for number in range(len(candles)) if is_spare(candles, time, number)]


def lean(candles, time):
    """Tell the lot that is left, if from the last candle on each is left out that can be."""
    check_watch(candles, time)
    left = all_numbers(candles)
    for number in reversed(range(len(candles))):
        others = without(left, (number,))
        if lot_keeps(candles, others, time):
            left = others
    return left


def slack(candles, time, number):
    """Tell (length, damp): the least and the soonest by which the candle serves; (0, 0) if it is spare."""
    check_watch(candles, time)
    if not is_candle_number(candles, number):
        raise BadCount()
    if is_spare(candles, time, number):
        return (0, 0)
    return (least_length(candles, time, number), soonest_damp(candles, time, number))


def one_more(candles, time, damp):
    """Tell the least length of a candle more by which all keep to the time; 0 if they do, else None."""
    check_candles(candles)
    check_time(time)
    check_within(damp, 0, LATEST_DAMP)
    if all_keep(candles, time):
        return 0
    for length in range(1, LONGEST_LENGTH + 1):
        # The price does not count; a thirteenth candle is none of the candles handed in.
        if all_keep(candles + ((length, damp, 1),), time):
            return length
    return None


def robbed(candles, many):
    """Tell (time, lot): the shortest of the longest watches when so many are gone, and those gone."""
    check_candles(candles)
    check_within(many, 0, min(MOST_LOST, len(candles)))
    everything = all_numbers(candles)
    losses = []
    for gone in combinations(range(len(candles)), many):
        losses.append((longest_of(candles, without(everything, gone)), gone))
    return min(losses)


def two(candles, time):
    """Tell the least (price, lot, lot) of two parted lots that each keep to the time, or None."""
    check_candles(candles)
    check_few(candles)
    check_time(time)
    keeping = keeping_lots(candles, time)
    pairs = []
    for first in keeping:
        for second in keeping:
            if first <= second and are_parted(first, second):
                pairs.append((price_of(candles, first + second), first, second))
    return min(pairs, default=None)


def check_watch(candles, time):
    check_candles(candles)
    check_time(time)
    if not all_keep(candles, time):
        raise NoWatch()


def lot_keeps(candles, lot, time):
    return longest_of(candles, lot) >= time


def all_keep(candles, time):
    return lot_keeps(candles, all_numbers(candles), time)


def keeping_lots(candles, time):
    many = len(candles)
    lots = [lot for size in range(many + 1) for lot in combinations(range(many), size)]
    return [lot for lot in lots if lot_keeps(candles, lot, time)]


def price_of(candles, lot):
    return sum([candles[number][2] for number in lot])


def without(lot, gone):
    return tuple([number for number in lot if number not in gone])


def are_parted(first, second):
    return without(first, second) == first


def is_spare(candles, time, number):
    return lot_keeps(candles, without(all_numbers(candles), (number,)), time)


def keeps_with(candles, time, number, candle):
    return all_keep(candles[:number] + (candle,) + candles[number + 1:], time)


def least_length(candles, time, number):
    _, damp, price = candles[number]
    length = 1
    # It ends at the candle's own length at the latest, by which all keep to the time.
    while not keeps_with(candles, time, number, (length, damp, price)):
        length += 1
    return length


def soonest_damp(candles, time, number):
    length, _, price = candles[number]
    damp = 0
    # Likewise it ends at the candle's own damp.
    while not keeps_with(candles, time, number, (length, damp, price)):
        damp += 1
    return damp
