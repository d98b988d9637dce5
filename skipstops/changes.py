"""Changes of tables and rings: one distance, one place more or less."""

from itertools import combinations

from skipstops.checks import check_any_ring, check_not_last, check_place, check_ring, check_row, check_size
from skipstops.checks import check_table, check_two_places
from skipstops.cutting import check_skip, corner_amount
from skipstops.kinds import MOST_PLACES
from skipstops.resizing import ring_without_place, with_place, without_place
from skipstops.trips import begun_at

MOST_TRIED = 10


def slack(table, ring, one, other):
    """The tuple (least, greatest) of the distances that two places can have such that the ring stays a skip ring."""
    check_table(table)
    check_ring(ring, len(table))
    check_two_places(one, other, len(table))
    check_skip(table, ring)
    distance = table[one][other]
    first, last = ring.index(one), ring.index(other)
    # The distance lessens the amounts of the sides that go from the one to the other, and adds to the amounts of
    # those that go from behind the one to the other or from the one to ahead of the other.
    lessened = _side_amounts(table, ring, [(first, last), (last, first)])
    raised = _side_amounts(table, ring, [(first + 1, last), (first, last - 1)])
    least = max([0] + [distance - amount for amount in raised])
    return (least, distance + min(lessened) if lessened else None)


def grown(table, row):
    """The table with one place more, which has the distances of the row to the others."""
    check_table(table)
    check_row(row, len(table))
    check_size(len(table) + 1, MOST_PLACES)
    return with_place(table, row)


def shrunk(table, place):
    """The table without a place, each greater number being one less."""
    check_table(table)
    check_place(place, len(table))
    check_not_last(len(table))
    return without_place(table, place)


def ring_without(ring, place):
    """The ring without a place, each greater number being one less."""
    check_any_ring(ring)
    check_place(place, len(ring))
    check_not_last(len(ring))
    return ring_without_place(ring, place)


def new_spots(table, ring, row):
    """The indices of the items of the ring behind which a new place with these distances makes a skip ring, too."""
    check_table(table)
    check_ring(ring, len(table))
    check_row(row, len(table))
    check_skip(table, ring)
    check_size(len(table) + 1, MOST_PLACES)
    return [at for at in range(len(ring)) if _fits_behind(table, ring, row, at)]


def left_out(table, ring):
    """The first list of as few places as possible such that the ring without them is a skip ring without them."""
    check_table(table)
    check_ring(ring, len(table))
    check_size(len(table), MOST_TRIED)
    bars = _all_bars(table, ring)
    for many in range(len(ring)):
        for places in combinations(range(len(ring)), many):
            left = sum([1 << place for place in places])
            if all([bar & left for bar in bars]):
                return list(places)


def _side_amounts(table, ring, sides):
    """The amounts of those of some sides, told by the numbers of both ends in the ring, that are sides of cuts."""
    count = len(ring)
    amounts = []
    for first, last in sides:
        if 2 <= (last - first) % count + 1 <= count - 2:
            corners = [ring[at % count] for at in (first - 1, first, last, last + 1)]
            amounts.append(corner_amount(table, corners))
    return amounts


def _fits_behind(table, ring, row, at):
    """Whether the ring stays a skip ring if a place with the distances of the row stands behind an item.

    Only cuts of which a side begins or ends at the new place are new. Their amounts are the steps by which the
    row exceeds the distances of both neighbours, from place to place.
    """
    behind = ring[at]
    others = begun_at(ring, behind)[1:]
    ahead = others[0] if others else behind
    falling = [row[place] - table[ahead][place] for place in others[1:] + [behind]]
    rising = [row[place] - table[behind][place] for place in others]
    return falling == sorted(falling, reverse=True) and rising == sorted(rising)


def _all_bars(table, ring):
    """All bars of a ring, as numbers with the bits of their places."""
    bars = []
    for stops in combinations(ring, 4):
        one, two, three, four = stops
        across = table[one][three] + table[two][four]
        along = max(table[one][two] + table[three][four], table[two][three] + table[four][one])
        if across < along:
            bars.append(sum([1 << place for place in stops]))
    return bars
