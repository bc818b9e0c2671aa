"""A slow but plain night, and deeds without a pattern, for the tests."""

import functools

WORDS = ("light", "wait", "get", "lose")


def whole(thing, low, high):
    return type(thing) is int and low <= thing <= high


def plain_candle(thing):
    ends = ((1, 99), (0, 999), (1, 99))
    if type(thing) is not tuple or len(thing) != 3:
        return False
    return all(whole(number, low, high) for number, (low, high) in zip(thing, ends))


@functools.lru_cache(maxsize=None)
def plain_best(candles, left, now, lasts):
    """Try all that can be lit yet, minute by minute."""
    best = lasts
    todo = [(left, now, lasts)]
    seen = set(todo)
    while todo:
        left, now, lasts = todo.pop()
        best = max(best, lasts)
        further = []
        for number in left:
            length, damp, _ = candles[number]
            if now <= damp:
                others = tuple(other for other in left if other != number)
                further.append((others, now, max(lasts, now + length)))
        if left and now < lasts:
            further.append((left, now + 1, lasts))
        for state in further:
            if state not in seen:
                seen.add(state)
                todo.append(state)
    return best


class PlainNight:
    """Keeps nothing but its deeds, and goes through all of them anew for each answer."""

    def __init__(self, candles):
        self.first = candles
        self.done = []
        self.replay()

    def replay(self):
        self.now = 0
        self.flame = True
        self.candles = list(self.first)
        self.starts = {}
        self.gone = set()
        for word, thing in self.done:
            if word == "light":
                self.starts[thing] = self.now
            elif word == "get":
                self.candles.append(thing)
            elif word == "lose":
                self.gone.add(thing)
            else:
                for _ in range(thing):
                    self.now += 1
                    # Once out, it's out.
                    self.flame = self.flame and bool(self.burning())

    def end(self, number):
        return self.starts[number] + self.candles[number][0]

    def can(self, deed):
        if type(deed) is not tuple or len(deed) != 2 or deed[0] not in WORDS:
            return False
        word, thing = deed
        if word == "wait":
            return whole(thing, 1, 9999)
        if word == "get":
            return plain_candle(thing) and len(self.candles) < 12
        if not whole(thing, 0, len(self.candles) - 1) or thing in self.starts or thing in self.gone:
            return False
        return word == "lose" or self.flame and self.now <= self.candles[thing][1]

    def do(self, deed):
        self.done.append(deed)
        self.replay()
        return self.best()

    def back(self):
        there_was_one = bool(self.done)
        self.done = self.done[:-1]
        self.replay()
        return there_was_one

    def best(self):
        lasts = max([self.end(number) for number in self.starts], default=0)
        if not self.flame:
            return lasts
        return plain_best(tuple(self.candles), tuple(self.unlit()), self.now, lasts)

    def burning(self):
        numbers = sorted(self.starts)
        return [(n, self.end(n)) for n in numbers if self.starts[n] <= self.now <= self.end(n)]

    def unlit(self):
        left = [n for n in range(len(self.candles)) if n not in self.starts and n not in self.gone]
        return [n for n in left if self.now <= self.candles[n][1]]

    def answers(self):
        return (self.best(), self.now, self.burning(), self.unlit(), self.done)


def answers(night):
    """All that a night tells, but for what changes it."""
    told = (night.best(), night.time(), night.burning(), night.unlit(), night.deeds())
    # repr tells True from 1, and a list from a tuple, where == may not.
    return repr(told)


class Chance:
    """Numbers without a pattern, but the same ones each time."""

    def __init__(self, seed):
        self.seed = seed

    def below(self, many):
        self.seed = (self.seed * 1103515245 + 12345) & 0x7FFFFFFF
        return (self.seed >> 8) % many

    def one_of(self, things):
        return things[self.below(len(things))]

    def deed(self):
        """Mostly one that might be done with a few small candles."""
        word = self.one_of(("light", "light", "light", "wait", "wait", "get", "lose"))
        if word == "wait":
            return (word, self.one_of((1, 1, 2, 3, 0)))
        if word == "get":
            return (word, (self.below(5), self.below(9), 1 + self.below(3)))
        return (word, self.below(7) - 1)
