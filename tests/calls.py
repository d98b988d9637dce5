"""Calls of live rings for the tests, and live rings by the words of the document."""

from skipstops.errors import InvalidIndex, InvalidNumber, InvalidPlace, InvalidRing, InvalidRow
from tests.tools import GREATEST, RING, bars_by_words, closed_length, exact

BARRED = [0, 2, 1, 3, 4]
ROW = [2, 3, 5, 4, 2]
NO_LISTS = [None, True, False, 0, 1, "", "01234", b"01234", (), {}, {0: 0}, set(), object()]
NO_INTEGERS = [None, True, False, "", "0", "1", b"1", (), (1,), [], [1], {}, {1}, object()]
NO_FIVE_PLACES = NO_INTEGERS + [-1, 5, 10 ** 59]
NO_ROWS = NO_LISTS + [[], [0] * 4, [0] * 6, [0, 0, 0, 0, True], [0, 0, -1, 0, 0], [0, 0, 0, 0, GREATEST + 1], (0,) * 5,
                      ["0"] * 5, [None] * 5]
NO_RINGS = NO_LISTS + [[], [0, 1, 2, 3], [0, 1, 2, 3, 4, 5], [1, 2, 3, 4, 5], [0, 1, 2, 3, 3], [False, 1, 2, 3, 4],
                       [0, True, 2, 3, 4], tuple(RING), [0, 1, 2, 3, "4"]]
NO_DISTANCES = NO_INTEGERS + [-1, GREATEST + 1, 10 ** 59]
# Each wrong call of a live ring of five places: the name, the arguments and the class of the error.
WRONG_CALLS = (
    [("change", [one, 0, 1], InvalidPlace) for one in NO_FIVE_PLACES]
    + [("change", [3, other, 1], InvalidPlace) for other in NO_FIVE_PLACES + [3]]
    + [("change", [3, 0, distance], InvalidNumber) for distance in NO_DISTANCES]
    + [("change", [one, None, None], InvalidPlace) for one in NO_FIVE_PLACES]
    + [("change", [3, other, None], InvalidPlace) for other in NO_FIVE_PLACES + [3]]
    + [("add", [row, 0], InvalidRow) for row in NO_ROWS]
    + [("add", [row, wrong], InvalidRow) for row in NO_ROWS for wrong in (None, -1, 5, True)]
    + [("add", [ROW, index], InvalidIndex) for index in NO_FIVE_PLACES]
    + [("drop", [place], InvalidPlace) for place in NO_FIVE_PLACES]
    + [("turn", [ring], InvalidRing) for ring in NO_RINGS]
)
NO_CHANGES = [
    None, True, 0, 4, "", "drop", "undo", (), [], {}, set(), object(), ["drop", 0], ["turn", RING], ("undo",), ("drop",),
    ("drop", 0, 0), ("turn",), ("turn", RING, RING), ("change", 0, 1), ("change", 0, 1, 2, 3), ("change",), ("add", ROW),
    ("add", ROW, 0, 0), ("Drop", 0), ("drop ", 0), (b"drop", 0), (None, 0), (0, 0), (["drop"], 0), (("drop", 0),), ((), 0),
    (True, 0), ({}, 0), ("tried", ("drop", 0)), ("twin",), ("log",), ("", 0), ("dropadd", 0),
]


def called(live, name, arguments):
    return getattr(live, name)(*arguments)


def live_state(live):
    """All that a live ring tells of itself."""
    return exact([live.table, live.ring, live.is_skip, live.length, live.log, len(live), live.described()])


class SlowLive:
    """A live ring by the words: a list of tables and rings, and the names of the calls between them."""

    def __init__(self, table, ring):
        self.stands = [([row[:] for row in table], ring[:])]
        self.log = []

    def call(self, name, arguments):
        """Make a call with right arguments."""
        table, ring = [row[:] for row in self.stands[-1][0]], self.stands[-1][1][:]
        count = len(ring)
        if name == "change":
            one, other, distance = arguments
            table[one][other] = table[other][one] = distance
        if name == "add":
            row, index = arguments
            table = [table[place] + [row[place]] for place in range(count)] + [row + [0]]
            ring = ring[:index + 1] + [count] + ring[index + 1:]
        if name == "drop":
            place = arguments[0]
            table = [[distance for to, distance in enumerate(row) if to != place]
                     for at, row in enumerate(table) if at != place]
            ring = [one if one < place else one - 1 for one in ring if one != place]
        if name == "turn":
            ring = arguments[0][:]
        self.stands.append((table, ring))
        self.log.append(name)
        return self.skips()

    def undo(self):
        self.stands.pop()
        self.log.pop()
        return self.skips()

    def skips(self):
        return not bars_by_words(*self.stands[-1])

    def length(self):
        return closed_length(*self.stands[-1])

    def state(self):
        """What live_state tells of a live ring, but for its bound."""
        table, ring = self.stands[-1]
        lines = [f"places {len(ring)}", f"length {self.length()}", "skip" if self.skips() else "bar"]
        return exact([table, ring, self.skips(), self.length(), self.log, len(ring), lines])


def drawn_call(numbers, table, ring, limit):
    """A call of a live ring with right arguments: (name, arguments)."""
    count = len(ring)
    names = ["add", "turn"] + (["change", "change", "drop"] if count > 1 else []) + (["add"] if count < 5 else [])
    name = names[numbers.below(len(names))]
    if name == "change":
        one, other = numbers.mixed(range(count))[:2]
        # Often a distance near the one there is, so that a skip ring may stay one.
        moved = [table[one][other] + 1, max(0, table[one][other] - 1), numbers.below(limit)]
        return name, [one, other, moved[numbers.below(3)]]
    if name == "add":
        twin = numbers.below(count)
        rows = [[numbers.below(limit) for _ in range(count)], table[ring[twin]][:]]
        return name, [rows[numbers.below(2)], [numbers.below(count), twin][numbers.below(2)]]
    if name == "drop":
        return name, [numbers.below(count)]
    at = numbers.below(count)
    turned = [numbers.mixed(ring), ring[at:] + ring[:at], ring[::-1]]
    return name, [turned[numbers.below(3)]]
