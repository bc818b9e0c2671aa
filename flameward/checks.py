"""What candles, lots, turns, times and few candles are; anything else is refused."""

from flameward.errors import BadCandles, BadCount, BadLot, TooMany

MOST_CANDLES = 12
LONGEST_LENGTH = 99
LATEST_DAMP = 999
HIGHEST_PRICE = 99
LATEST_TIME = 9999
# What goes over all turns, or over all pairs of lots, takes no more candles than these.
MOST_OF_FEW = 8


def is_whole(number):
    # True and False are integers for Python, but no numbers here.
    return isinstance(number, int) and not isinstance(number, bool)


def is_within(number, low, high):
    return is_whole(number) and low <= number <= high


def is_candle(candle):
    if not isinstance(candle, tuple) or len(candle) != 3:
        return False
    length, damp, price = candle
    if not is_within(length, 1, LONGEST_LENGTH) or not is_within(damp, 0, LATEST_DAMP):
        return False
    return is_within(price, 1, HIGHEST_PRICE)


def is_candle_number(candles, number):
    return is_within(number, 0, len(candles) - 1)


def check_candles(candles):
    if not isinstance(candles, tuple):
        raise BadCandles(0)
    for number, candle in enumerate(candles):
        if number >= MOST_CANDLES or not is_candle(candle):
            raise BadCandles(number)


def check_lot(candles, lot):
    if not isinstance(lot, tuple):
        raise BadLot(0)
    least = 0
    for place, number in enumerate(lot):
        if not is_candle_number(candles, number) or number < least:
            raise BadLot(place)
        least = number + 1


def check_turn(candles, turn):
    if not isinstance(turn, tuple):
        raise BadLot(0)
    for place, number in enumerate(turn):
        if not is_candle_number(candles, number) or number in turn[:place]:
            raise BadLot(place)


def check_within(number, low, high):
    if not is_within(number, low, high):
        raise BadCount()


def check_time(time):
    check_within(time, 0, LATEST_TIME)


def check_few(candles):
    if len(candles) > MOST_OF_FEW:
        raise TooMany()
