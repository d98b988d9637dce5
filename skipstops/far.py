"""Stops that are far apart: pairs with a great or a small sum of distances, and long trips."""

from skipstops.checks import check_any_ring, check_ring, check_stops, check_table
from skipstops.cutting import check_skip
from skipstops.errors import EvenStops, OddStops
from skipstops.kinds import is_integer_list, makes_pairs
from skipstops.trips import met_round, plain_trip, round_length


def opposite_pairs(ring, stops):
    """The opposite pairs of an even number of stops."""
    check_any_ring(ring)
    check_stops(stops, len(ring))
    _check_even(stops)
    return _opposite(ring, stops)


def far_trip(ring, stops):
    """The plain trip that goes from each of an odd number of stops to one of both that are nearly opposite."""
    check_any_ring(ring)
    check_stops(stops, len(ring))
    _check_odd(stops)
    return plain_trip(_far(ring, stops))


def greatest_sum(table, ring, stops):
    """The greatest sum of distances of pairs of the stops."""
    _check_stops_of_skip(table, ring, stops)
    _check_even(stops)
    return _sum_of(table, _opposite(ring, stops))


def least_sum(table, ring, stops):
    """The least sum of distances of pairs of the stops."""
    _check_stops_of_skip(table, ring, stops)
    _check_even(stops)
    row = met_round(ring, stops)
    # least[first][half] is the least sum of pairs of the 2 * half stops from first on. Pairs that cross can be
    # exchanged for pairs that do not without a greater sum, so what is inside of a pair is paired inside.
    least = [[0] for first in range(len(row) + 1)]
    for half in range(1, len(row) // 2 + 1):
        for first in range(len(row) - 2 * half + 1):
            steps = table[row[first]]
            sums = []
            for inner in range(half):
                behind = first + 2 * inner + 2
                sums.append(steps[row[behind - 1]] + least[first + 1][inner] + least[behind][half - 1 - inner])
            least[first].append(min(sums))
    return least[0][-1]


def longest_length(table, ring, stops):
    """The length of a longest trip through the stops."""
    _check_stops_of_skip(table, ring, stops)
    _check_odd(stops)
    return round_length(table, _far(ring, stops))


def shows_far(table, ring, stops, value):
    """Whether any value is a list of pairs, or a trip through all of the stops, that no other one exceeds."""
    _check_stops_of_skip(table, ring, stops)
    if _are_even(stops):
        return makes_pairs(stops, value) and _sum_of(table, value) == _sum_of(table, _opposite(ring, stops))
    if not is_integer_list(value) or sorted(value) != sorted(stops):
        return False
    return round_length(table, value) == round_length(table, _far(ring, stops))


def _check_stops_of_skip(table, ring, stops):
    """The errors of the parameters, then NotSkip."""
    check_table(table)
    check_ring(ring, len(table))
    check_stops(stops, len(table))
    check_skip(table, ring)


def _are_even(stops):
    """Whether the number of the stops is even."""
    return len(stops) % 2 == 0


def _check_even(stops):
    """OddStops unless the number of the stops is even."""
    if not _are_even(stops):
        raise OddStops("the number of the stops must be even")


def _check_odd(stops):
    """EvenStops unless the number of the stops is odd."""
    if _are_even(stops):
        raise EvenStops("the number of the stops must be odd")


def _opposite(ring, stops):
    """The pairs of each stop and the one half the stops further on."""
    row = met_round(ring, stops)
    half = len(row) // 2
    return sorted([(min(pair), max(pair)) for pair in zip(row[:half], row[half:])])


def _far(ring, stops):
    """The trip from each of 2 m + 1 stops to the one m places on."""
    row = met_round(ring, stops)
    half = len(row) // 2
    return [row[at * half % len(row)] for at in range(len(row))]


def _sum_of(table, pairs):
    """The sum of the distances of pairs."""
    return sum([table[one][other] for one, other in pairs])
