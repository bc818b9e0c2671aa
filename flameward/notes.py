"""Candles as texts."""

from flameward.checks import check_candles
from flameward.errors import BadText

WORD = "candle"
FIGURES = "0123456789"
MOST_FIGURES = 3


def written(candles):
    """Tell the candles as a text, a row for each."""
    check_candles(candles)
    return "\n".join([f"{WORD} {length} {damp} {price}" for length, damp, price in candles])


def read(text):
    """Tell the candles of which this is the text."""
    if not isinstance(text, str):
        raise BadText(0)
    candles = []
    # The empty text has no row, though a split would tell an empty one.
    rows = text.split("\n") if text else []
    for row, line in enumerate(rows):
        words = line.split(" ")
        if not is_row(words):
            raise BadText(row)
        candles.append((int(words[1]), int(words[2]), int(words[3])))
    told = tuple(candles)
    check_candles(told)
    return told


def is_row(words):
    return len(words) == 4 and words[0] == WORD and all([is_number(word) for word in words[1:]])


def is_number(word):
    if not 1 <= len(word) <= MOST_FIGURES or not all([sign in FIGURES for sign in word]):
        return False
    return word == "0" or word[0] != "0"
