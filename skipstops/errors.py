"""All errors of the package."""


class RingError(ValueError):
    """What every error of this package is."""


class InvalidCount(RingError):
    """A count is not an integer from 1 to 30."""


class InvalidTable(RingError):
    """A table is not a table of distances."""


class InvalidTables(RingError):
    """Tables are not 1 to 6 tables of one number of places."""


class InvalidRing(RingError):
    """A ring is not a list of all places, each once."""


class InvalidStops(RingError):
    """Stops are not a list of different places."""


class InvalidTrip(RingError):
    """A trip is not a list of one or more different places."""


class InvalidPlace(RingError):
    """A place is not one of the places."""


class InvalidIndex(RingError):
    """An index is not an integer from 0 on, or is too great."""


class InvalidNumber(RingError):
    """A number is not an integer within its bounds."""


class InvalidPrizes(RingError):
    """Prizes are not a list with one for each place."""


class InvalidRow(RingError):
    """A row is not a list with a distance for each place."""


class InvalidAmounts(RingError):
    """Amounts are not a list with an integer for each place."""


class InvalidCuts(RingError):
    """Cuts are not an ascending list of cuts of the ring with their amounts."""


class InvalidSequence(RingError):
    """A sequence is not a list of all places but the depot, each once."""


class InvalidShares(RingError):
    """Shares are not a list of fractions as it is wanted."""


class InvalidRoads(RingError):
    """Roads do not make a tree of the places."""


class InvalidLengths(RingError):
    """Lengths are not those of the pieces of a ring road."""


class InvalidChange(RingError):
    """A change that is tried is none of the four."""


class InvalidCommand(RingError):
    """A command has none of the forms of a command."""


class NotSkip(RingError):
    """A ring is not a skip ring of its table."""


class NoSkipRing(RingError):
    """A table has no skip ring."""


class NoTable(RingError):
    """What was passed makes no table."""


class OddStops(RingError):
    """The number of the stops is odd."""


class EvenStops(RingError):
    """The number of the stops is even."""


class LastPlace(RingError):
    """The only place cannot be taken away."""


class NothingToUndo(RingError):
    """No call is left to take back."""


class TooLarge(RingError):
    """There are more than some function takes: `limit` is the greatest number."""

    def __init__(self, limit):
        super().__init__(f"there are more than {limit}")
        self.limit = limit


class Bending(RingError):
    """Two places, `one` and `other`, are nearer by the depot than straight."""

    def __init__(self, one, other):
        super().__init__(f"the places {one} and {other} bend")
        self.one = one
        self.other = other


class TooLong(RingError):
    """A ring would have a length, `size`, above its bound."""

    def __init__(self, size):
        super().__init__(f"the ring would have the length {size}")
        self.size = size


class InvalidText(RingError):
    """A text has not its form: `number` is the first wrong line, None for no string."""

    def __init__(self, number):
        super().__init__(f"wrong text, line {number}")
        self.number = number
