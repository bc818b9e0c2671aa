"""All refusals of the program."""


class FlameError(ValueError):
    """Any refusal."""


class BadCandles(FlameError):
    """No such candles; number is that of the first that can't be."""

    def __init__(self, number):
        self.number = number


class BadPlan(FlameError):
    """No such plan; number is the place of the first step that can't be."""

    def __init__(self, number):
        self.number = number


class BadLot(FlameError):
    """No such lot or turn; number is the place of the first candle that can't be."""

    def __init__(self, number):
        self.number = number


class BadDeed(FlameError):
    """No such deed; number is the place of the first that can't be."""

    def __init__(self, number):
        self.number = number


class BadCount(FlameError):
    """A number that can't be, such as a time or a count."""


class NoWatch(FlameError):
    """Not even all candles keep to the time."""


class TooMany(FlameError):
    """More candles than the question takes."""


class Halted(FlameError):
    """A batch came to the deed of this number, which can't be done; done deeds stand."""

    def __init__(self, number, done):
        self.number = number
        self.done = done


class BadText(FlameError):
    """No such text; row is that of the first row that can't be."""

    def __init__(self, row):
        self.row = row
