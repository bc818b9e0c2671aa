"""A night, gone through by deeds, there and back."""

from flameward.checks import MOST_CANDLES, check_candles, is_candle, is_candle_number, is_within
from flameward.errors import BadDeed, Halted
from flameward.lighting import longest_from

WORDS = ("light", "wait", "get", "lose")
LONGEST_WAIT = 9999


class Night:
    """A night with these candles, at time 0, none lit."""

    def __init__(self, candles):
        check_candles(candles)
        self.candles = list(candles)
        # The ends of those that were lit, by their numbers.
        self.ends = {}
        self.lost = []
        self.now = 0
        self.done = []

    def do(self, deed):
        """Do one deed, and tell best behind it."""
        if not is_deed(deed) or not self.can_do(deed):
            raise BadDeed(0)
        self.carry_out(deed)
        return self.best()

    def batch(self, deeds, *, keep=True):
        """Do these deeds, and tell what each tells; where one can't be done, those ahead stand if keep."""
        check_deeds(deeds)
        told = []
        for number, deed in enumerate(deeds):
            if not self.can_do(deed):
                if keep is True:
                    raise Halted(number, number)
                self.take_back(number)
                raise Halted(number, 0)
            self.carry_out(deed)
            told.append(self.best())
        return told

    def back(self):
        """Take the last deed back, and tell whether there was one."""
        if not self.done:
            return False
        self.take_back(1)
        return True

    def best(self):
        """Tell the time to which the watch may last yet, or to which it lasted."""
        lasts = self.lasts()
        if not self.has_flame():
            return lasts
        return longest_from(self.candles, self.unlit(), lasts)

    def time(self):
        """Tell the time."""
        return self.now

    def burning(self):
        """Tell (candle, end) of those that burn, or just burn out."""
        return [(number, end) for number, end in sorted(self.ends.items()) if end >= self.now]

    def unlit(self):
        """Tell the candles that are not lit, lost or damp by now."""
        return [number for number in range(len(self.candles)) if self.is_dry(number) and self.is_left(number)]

    def deeds(self):
        """Tell the deeds that were done and not taken back."""
        return list(self.done)

    def lasts(self):
        return max(self.ends.values(), default=0)

    def has_flame(self):
        # Each was lit from a flame, so there was one at any time up to the last end;
        # with none lit it stands at time 0 alone.
        return self.now <= self.lasts()

    def is_dry(self, number):
        return self.now <= self.candles[number][1]

    def is_left(self, number):
        return number not in self.ends and number not in self.lost

    def can_do(self, deed):
        word, thing = deed
        if word == "wait":
            return is_within(thing, 1, LONGEST_WAIT)
        if word == "get":
            return is_candle(thing) and len(self.candles) < MOST_CANDLES
        if not is_candle_number(self.candles, thing) or not self.is_left(thing):
            return False
        if word == "lose":
            return True
        return self.is_dry(thing) and self.has_flame()

    def carry_out(self, deed):
        word, thing = deed
        if word == "light":
            self.ends[thing] = self.now + self.candles[thing][0]
        elif word == "wait":
            self.now += thing
        elif word == "get":
            self.candles.append(thing)
        else:
            self.lost.append(thing)
        self.done.append(deed)

    def take_back(self, many):
        for _ in range(many):
            word, thing = self.done.pop()
            if word == "light":
                del self.ends[thing]
            elif word == "wait":
                self.now -= thing
            elif word == "get":
                self.candles.pop()
            else:
                self.lost.pop()


def is_deed(deed):
    return isinstance(deed, tuple) and len(deed) == 2 and deed[0] in WORDS


def check_deeds(deeds):
    if not isinstance(deeds, list):
        raise BadDeed(0)
    for number, deed in enumerate(deeds):
        if not is_deed(deed):
            raise BadDeed(number)
