"""Tables, rings and trips."""

from skipstops.checks import check_any_ring, check_count, check_ring, check_stops, check_table, check_trip
from skipstops.kinds import makes_ring, makes_table
from skipstops.trips import plain_trip, round_length, trip_around


def is_table(value):
    """Whether any value is a table."""
    return makes_table(value)


def is_ring(count, value):
    """Whether any value is a ring of so many places."""
    check_count(count)
    return makes_ring(count, value)


def plain_ring(ring):
    """The least list among the rings that are alike with a ring."""
    check_any_ring(ring)
    return plain_trip(ring)


def are_alike(ring, other_ring):
    """Whether one ring is the other one, begun at another place, or read backwards, or both."""
    check_any_ring(ring)
    check_ring(other_ring, len(ring))
    return plain_trip(ring) == plain_trip(other_ring)


def trip_length(table, trip):
    """The length of a trip, from its last stop back to its first one."""
    check_table(table)
    check_trip(trip, len(table))
    return round_length(table, trip)


def around(ring, stops):
    """The trip round a ring through some stops, as a plain trip."""
    check_any_ring(ring)
    check_stops(stops, len(ring))
    return trip_around(ring, stops)


def around_length(table, ring, stops):
    """The length of the trip round a ring through some stops."""
    check_table(table)
    check_ring(ring, len(table))
    check_stops(stops, len(table))
    return round_length(table, trip_around(ring, stops))
