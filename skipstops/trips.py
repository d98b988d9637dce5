"""Trips and their lengths, for values that are known to be right."""


def plain_trip(trip):
    """The trip that goes the same round, begun at its least stop and towards the lesser of both neighbours."""
    start = trip.index(min(trip))
    forth = trip[start:] + trip[:start]
    back = forth[:1] + forth[:0:-1]
    return min(forth, back)


def begun_at(ring, place):
    """The ring, begun at a place."""
    start = ring.index(place)
    return ring[start:] + ring[:start]


def met_round(ring, stops):
    """Some stops in the sequence of a ring."""
    return [place for place in ring if place in stops]


def trip_around(ring, stops):
    """The trip round a ring through some stops."""
    return plain_trip(met_round(ring, stops))


def round_length(table, trip):
    """The length of a trip."""
    return sum([table[trip[at - 1]][trip[at]] for at in range(len(trip))])
