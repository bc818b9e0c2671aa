"""Candles lit in their turn, and to which time the watch lasts by them."""


def all_numbers(candles):
    return tuple(range(len(candles)))


def latest_end(candle):
    length, damp, _ = candle
    return damp + length


def by_latest_end(candles, lot):
    ends = [(latest_end(candles[number]), number) for number in lot]
    return [number for _, number in sorted(ends)]


def lit_in_turn(candles, turn, lasts):
    """Tell (time, steps): to when a watch lasts that lasts already, and who is lit (time, candle)."""
    steps = []
    for number in turn:
        length, damp, _ = candles[number]
        time = min(lasts, damp)
        if time + length > lasts:
            steps.append((time, number))
            lasts = time + length
    return lasts, steps


def longest_from(candles, lot, lasts):
    # No turn lasts longer than this one: it comes to the least of the bounds. What lasts
    # already is like a candle that has to be lit at once.
    return lit_in_turn(candles, by_latest_end(candles, lot), lasts)[0]


def longest_of(candles, lot):
    return longest_from(candles, lot, 0)
