"""A console: a live ring that is changed and asked by commands."""

from skipstops.amounts import heavy_cuts
from skipstops.changes import slack
from skipstops.choosing import cheapest_stops
from skipstops.digits import number_of
from skipstops.errors import InvalidCommand, InvalidText
from skipstops.far import greatest_sum, longest_length
from skipstops.finding import count_skip, skip_ring
from skipstops.kinds import makes_stops
from skipstops.live import LiveRing
from skipstops.rings import around_length
from skipstops.shares import fair_shares
from skipstops.texts import read_ring, read_table, show_ring, show_shares, show_table

NONE = "none"


def _words_of(command):
    """The words of a command; InvalidCommand unless it is a string of words with single spaces between."""
    if not isinstance(command, str) or "\n" in command:
        raise InvalidCommand("a command must be a string of one line")
    words = command.split(" ")
    if "" in words:
        raise InvalidCommand("a command must be words with single spaces between")
    return words


def _numbers(words, many):
    """The numbers with some words as texts; InvalidCommand unless they are so many."""
    numbers = [number_of(word) for word in words]
    if len(numbers) != many or None in numbers:
        raise InvalidCommand(f"there must be so many numbers: {many}")
    return numbers


def _stops(live, words):
    """The stops that the only word tells; InvalidCommand unless it is one of different places."""
    stops = [number_of(number) for number in words[0].split(",")] if len(words) == 1 else []
    if not makes_stops(len(live), stops):
        raise InvalidCommand("there must be one word of different places")
    return stops


def _read_ring(live, words):
    """The ring that the only word tells; InvalidCommand unless it is the text of a ring of the places."""
    if len(words) != 1:
        raise InvalidCommand("there must be one word")
    try:
        return read_ring(len(live), words[0])
    except InvalidText:
        raise InvalidCommand("the word must be the text of a ring of the places") from None


def _read_live(words):
    """The live ring with the table that some words tell; InvalidCommand unless they are the text of a table."""
    try:
        table = read_table(" ".join(words).replace("; ", "\n"))
    except InvalidText:
        raise InvalidCommand("the words must be the text of a table, with semicolons for its newlines") from None
    return LiveRing(table, list(range(len(table))))


def _state(skips):
    """The answer that tells whether the ring is a skip ring."""
    return "skip" if skips else "bar"


def _listed(places):
    """Places with commas between."""
    return ",".join([str(place) for place in places])


def _turn(live, words):
    """RING: another ring of the places."""
    return _state(live.turn(_read_ring(live, words)))


def _change(live, words):
    """N N N: two places get another distance."""
    one, other, distance = _numbers(words, 3)
    return _state(live.change(one, other, distance))


def _add(live, words):
    """N N ..: a new place behind an item of the ring."""
    # The row has one number or more; whether it is as long as it must be is another question.
    index, *row = _numbers(words, max(2, len(words)))
    return _state(live.add(row, index))


def _drop(live, words):
    """N: a place is taken away."""
    return _state(live.drop(_numbers(words, 1)[0]))


def _undo(live, words):
    """The latest call is taken back."""
    _numbers(words, 0)
    return _state(live.undo())


def _show(live, words):
    """The lines of the table."""
    _numbers(words, 0)
    return show_table(live.table).replace("\n", "; ") or NONE


def _ring(live, words):
    """The text of the ring."""
    _numbers(words, 0)
    return show_ring(live.ring)


def _length(live, words):
    """The length of the trip round the ring through all places."""
    _numbers(words, 0)
    return str(live.length)


def _around(live, words):
    """STOPS: the length of the trip round the ring through them."""
    return str(around_length(live.table, live.ring, _stops(live, words)))


def _cuts(live, words):
    """The heavy cuts with their amounts."""
    _numbers(words, 0)
    return " ".join([f"{_listed(cut)}:{amount}" for cut, amount in heavy_cuts(live.table, live.ring)]) or NONE


def _rings(live, words):
    """How many plain rings are skip rings."""
    _numbers(words, 0)
    return str(count_skip(live.table))


def _find(live, words):
    """The text of the first plain skip ring."""
    _numbers(words, 0)
    found = skip_ring(live.table)
    return NONE if found is None else show_ring(found)


def _far(live, words):
    """STOPS: the greatest sum of their pairs, or the length of their longest trip."""
    stops = _stops(live, words)
    if len(stops) % 2 == 0:
        return str(greatest_sum(live.table, live.ring, stops))
    return str(longest_length(live.table, live.ring, stops))


def _cheapest(live, words):
    """N: so many stops with the shortest trip."""
    return _listed(cheapest_stops(live.table, live.ring, _numbers(words, 1)[0])[1])


def _shares(live, words):
    """N: the text of the fair shares from a depot."""
    return show_shares(fair_shares(live.table, live.ring, _numbers(words, 1)[0]))


def _slack(live, words):
    """N N: the least and the greatest distance that two places can have."""
    one, other = _numbers(words, 2)
    least, greatest = slack(live.table, live.ring, one, other)
    return f"{least} {NONE if greatest is None else greatest}"


ACTIONS = {
    "turn": _turn,
    "change": _change,
    "add": _add,
    "drop": _drop,
    "undo": _undo,
    "show": _show,
    "ring": _ring,
    "length": _length,
    "around": _around,
    "cuts": _cuts,
    "rings": _rings,
    "find": _find,
    "far": _far,
    "cheapest": _cheapest,
    "shares": _shares,
    "slack": _slack,
}


class Console:
    """A live ring, and the commands by which it is changed and asked."""

    def __init__(self):
        self._live = LiveRing([[0]], [0])

    def execute(self, command):
        """Perform a command and return its answer."""
        words = _words_of(command)
        if words[0] == "table":
            self._live = _read_live(words[1:])
            return _state(self._live.is_skip)
        if words[0] not in ACTIONS:
            raise InvalidCommand("there is no such command")
        action = ACTIONS[words[0]]
        return action(self._live, words[1:])
