"""All skip rings of a table, and all shortest trips through some stops.

If a table has a skip ring, its skip rings are all its shortest rings. So one shortest ring tells whether there
are skip rings at all, and if so, the shortest trips through all places are them.
"""

from skipstops.checks import check_index, check_ring, check_size, check_stops, check_table, check_tables
from skipstops.cutting import check_skip, goes_skip
from skipstops.errors import InvalidIndex, NoSkipRing
from skipstops.shortest import ShortestTrips
from skipstops.trips import plain_trip

MOST_FOUND = 10


def shortest_length(table):
    """The length of a shortest trip through all places."""
    return _all_places(table).least_length()


def has_skip(table):
    """Whether some ring is a skip ring."""
    return _first_skip(table, _all_places(table)) is not None


def count_skip(table):
    """How many plain rings are skip rings."""
    trips = _all_places(table)
    return 0 if _first_skip(table, trips) is None else trips.many()


def nth_skip(table, index):
    """The plain skip ring with an index, ascending."""
    check_table(table)
    check_index(index)
    trips = _all_places(table)
    if _first_skip(table, trips) is None:
        raise InvalidIndex("the table has no skip ring")
    return _nth_of(trips, index)


def skip_index(table, ring):
    """The index of the plain ring of a skip ring among the plain skip rings."""
    check_table(table)
    check_ring(ring, len(table))
    check_skip(table, ring)
    return _all_places(table).index_of(plain_trip(ring))


def skip_ring(table):
    """The first plain skip ring, None if there is none."""
    return _first_skip(table, _all_places(table))


def sure_neighbours(table):
    """The ascending list of the pairs of places that stand side by side on all skip rings."""
    trips = _skip_trips(table)
    many = trips.many()
    return [pair for pair in _pairs(len(table)) if trips.many_beside(pair[0], pair[1]) == many]


def possible_neighbours(table):
    """The ascending list of the pairs of places that stand side by side on some skip ring."""
    trips = _skip_trips(table)
    return [pair for pair in _pairs(len(table)) if trips.many_beside(pair[0], pair[1]) > 0]


def count_trips(table, stops):
    """How many plain trips through some stops are shortest."""
    check_table(table)
    check_stops(stops, len(table))
    check_size(len(stops), MOST_FOUND)
    return ShortestTrips(table, stops).many()


def nth_trip(table, stops, index):
    """The shortest plain trip through some stops with an index, ascending."""
    check_table(table)
    check_stops(stops, len(table))
    check_index(index)
    check_size(len(stops), MOST_FOUND)
    return _nth_of(ShortestTrips(table, stops), index)


def common_skip(tables):
    """The first plain ring that is a skip ring of all tables, None if there is none."""
    check_tables(tables)
    places = range(len(tables[0]))
    check_size(len(places), MOST_FOUND)
    total = [[sum([table[one][other] for table in tables]) for other in places] for one in places]
    # The amounts of a common skip ring add up to those of the sum, so none of the tables has a heavy cut that
    # the sum has not: then all skip rings of the sum are common ones, and otherwise none is.
    ring = ShortestTrips(total, list(places)).nth(0)
    return ring if all([goes_skip(table, ring) for table in tables]) else None


def _all_places(table):
    """The shortest trips through all places of a table; InvalidTable, TooLarge."""
    check_table(table)
    check_size(len(table), MOST_FOUND)
    return ShortestTrips(table, list(range(len(table))))


def _first_skip(table, trips):
    """The first of the shortest trips through all places, None if it is no skip ring."""
    ring = trips.nth(0)
    return ring if goes_skip(table, ring) else None


def _skip_trips(table):
    """The skip rings of a table as shortest trips; NoSkipRing if there are none."""
    trips = _all_places(table)
    if _first_skip(table, trips) is None:
        raise NoSkipRing("the table has no skip ring")
    return trips


def _nth_of(trips, index):
    """The one of some trips with an index; InvalidIndex if it is too great."""
    if index >= trips.many():
        raise InvalidIndex("there are not so many")
    return trips.nth(index)


def _pairs(count):
    """The ascending list of the tuples of two places, the lesser one first."""
    return [(one, other) for one in range(count) for other in range(one + 1, count)]
