"""Stops that are chosen: the cheapest and the dearest ones, those with the best prizes, as many as possible."""

from skipstops.checks import check_length, check_many, check_place, check_prizes, check_ring, check_stops, check_table
from skipstops.cutting import check_skip
from skipstops.trips import begun_at, met_round, round_length
from skipstops.walks import best_walk, least_lengths, reach_of


def cheapest_stops(table, ring, many):
    """The tuple (length, stops) of so many stops with the shortest trip round the ring."""
    _check_many_of_skip(table, ring, many)
    return _cheapest(table, ring, many)


def dearest_stops(table, ring, many):
    """The tuple (length, stops) of so many stops with the longest trip round the ring."""
    _check_many_of_skip(table, ring, many)
    below, stops = _cheapest([[-distance for distance in row] for row in table], ring, many)
    return (-below, stops)


def best_prizes(table, ring, prizes):
    """The tuple (worth, stops) of the stops with the greatest sum of prizes less the length of their trip."""
    check_table(table)
    check_ring(ring, len(table))
    check_prizes(prizes, len(table))
    check_skip(table, ring)
    worths = [best_walk(table, prizes, _row_from(ring, first), [first])[0] for first in range(len(ring))]
    most = max(worths)
    if most <= 0:
        return (0, [])

    def can_be(row, sure):
        return best_walk(table, prizes, row, sure)[0] == most

    def are_enough(sure):
        return sum([prizes[place] for place in sure]) - round_length(table, met_round(ring, sure)) == most

    return (most, _first_stops(ring, worths.index(most), can_be, are_enough))


def most_stops(table, ring, length):
    """The tuple (many, stops) of as many stops as possible with a trip that is not longer than the length."""
    check_table(table)
    check_ring(ring, len(table))
    check_length(length)
    check_skip(table, ring)
    limit = min(length, reach_of(table))
    found = []
    for first in range(len(ring)):
        row = _row_from(ring, first)
        lengths = least_lengths(table, row, [first], len(row))
        found.append(max([many for many, least in enumerate(lengths, 1) if least <= limit]))
    many = max(found)
    return (many, _so_many(table, ring, many, found.index(many), limit))


def adds(table, ring, stops, place):
    """By how much the trip round the ring through the stops grows with one place more."""
    check_table(table)
    check_ring(ring, len(table))
    check_stops(stops, len(table))
    check_place(place, len(table))
    check_skip(table, ring)
    return round_length(table, met_round(ring, stops + [place])) - round_length(table, met_round(ring, stops))


def _check_many_of_skip(table, ring, many):
    """The errors of the parameters, then NotSkip."""
    check_table(table)
    check_ring(ring, len(table))
    check_many(many, len(table))
    check_skip(table, ring)


def _cheapest(table, ring, many):
    """The tuple (length, stops) of so many stops with the shortest trip; distances may be below 0."""
    firsts = range(len(ring) - many + 1)
    lengths = [least_lengths(table, _row_from(ring, first), [first], many)[-1] for first in firsts]
    length = min(lengths)
    return (length, _so_many(table, ring, many, lengths.index(length), length))


def _so_many(table, ring, many, first, limit):
    """The first list of so many stops, begun with a known one, whose trip is not longer than the limit."""
    def can_be(row, sure):
        return len(row) >= many and least_lengths(table, row, sure, many)[-1] <= limit

    def are_enough(sure):
        return len(sure) == many

    return _first_stops(ring, first, can_be, are_enough)


def _row_from(ring, first):
    """The places from a first one on, in the sequence of the ring, begun at it."""
    return [place for place in begun_at(ring, first) if place >= first]


def _first_stops(ring, first, can_be, are_enough):
    """The first ascending list of stops that is wanted, if its first stop is known.

    `can_be` tells whether some list that is wanted has all sure stops and others of a row alone, `are_enough`
    whether the sure stops are themselves such a list: then all that go on from them come behind it.
    """
    row = _row_from(ring, first)
    sure = [first]
    for place in range(first + 1, len(ring)):
        if are_enough(sure):
            break
        if can_be(row, sure + [place]):
            sure.append(place)
        else:
            row = [one for one in row if one != place]
    return sure
