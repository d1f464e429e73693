"""The errors of the package, each under its one base class."""


class WrongValue(ValueError):
    """A value is not what it must be; not raised itself."""


class InvalidText(WrongValue):
    """A value is not the text of a sea."""

    def __init__(self, given):
        self.given = given


class InvalidNumber(WrongValue):
    """A value is not an integer that is asked for."""

    def __init__(self, given):
        self.given = given


class InvalidName(WrongValue):
    """A value is no name."""

    def __init__(self, given):
        self.given = given


class InvalidWish(WrongValue):
    """A value is no wish."""

    def __init__(self, given):
        self.given = given


class InvalidIndex(WrongValue):
    """A value is not the index of a wish."""

    def __init__(self, given):
        self.given = given


class NotASea(WrongValue):
    """A value is no Sea."""

    def __init__(self, given):
        self.given = given


class InvalidIslands(WrongValue):
    """Islands are wrong at this index."""

    def __init__(self, index):
        self.index = index


class InvalidBridges(WrongValue):
    """Bridges are wrong at this index."""

    def __init__(self, index):
        self.index = index


class InvalidWishes(WrongValue):
    """Wished strengths are wrong at this index."""

    def __init__(self, index):
        self.index = index


class InvalidEnds(WrongValue):
    """Ends, or ways in, are wrong at this index."""

    def __init__(self, index):
        self.index = index


class InvalidPrices(WrongValue):
    """Prices are wrong at this index."""

    def __init__(self, index):
        self.index = index


class InvalidForward(WrongValue):
    """A one-way table is wrong at this index."""

    def __init__(self, index):
        self.index = index


class InvalidOffers(WrongValue):
    """Offers are wrong at this index."""

    def __init__(self, index):
        self.index = index


class InvalidGrowth(WrongValue):
    """A growth is wrong at this index."""

    def __init__(self, index):
        self.index = index


class WrongName(LookupError):
    """Nothing stands under a name; not raised itself."""


class UnknownName(WrongName):
    """A value is none of the names that are known."""

    def __init__(self, given):
        self.given = given


class NoAnswer(ArithmeticError):
    """What is asked for cannot be; not raised itself."""


class TooWeak(NoAnswer):
    """Bridges are too weak: given tells what they lack or allow."""

    def __init__(self, given):
        self.given = given


class TooMany(NoAnswer):
    """A pair would have too few or too many bridges."""

    def __init__(self, given):
        self.given = given


class NothingToUndo(NoAnswer):
    """No change is left that could be taken back."""

    def __init__(self):
        """Take nothing."""


class Broken(NoAnswer):
    """The wish with this index would not hold."""

    def __init__(self, index):
        self.index = index
