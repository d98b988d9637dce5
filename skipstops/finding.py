"""All skip rings of a table, and all shortest trips through some stops.

If a table has a skip ring, its skip rings are all its shortest rings. So one skip ring tells the others, and only a
table without any needs a search for its shortest trips.
"""

from skipstops.checks import check_index, check_ring, check_size, check_stops, check_table, check_tables
from skipstops.cutting import goes_skip, heavy_sides_of_skip
from skipstops.errors import InvalidIndex, NoSkipRing
from skipstops.layouts import SkipRings
from skipstops.seeking import some_skip_ring
from skipstops.shortest import ShortestTrips
from skipstops.trips import begun_at, plain_trip, round_length

MOST_FOUND = 10


def shortest_length(table):
    """The length of a shortest trip through all places."""
    check_table(table)
    check_size(len(table), MOST_FOUND)
    found = some_skip_ring(table)
    return ShortestTrips(table).least_length() if found is None else round_length(table, found[0])


def has_skip(table):
    """Whether some ring is a skip ring."""
    check_table(table)
    check_size(len(table), MOST_FOUND)
    return some_skip_ring(table) is not None


def count_skip(table):
    """How many plain rings are skip rings."""
    check_table(table)
    rings = _skip_rings(table)
    return 0 if rings is None else rings.many()


def nth_skip(table, index):
    """The plain skip ring with an index, ascending."""
    check_table(table)
    check_index(index)
    rings = _skip_rings(table)
    if rings is None:
        raise InvalidIndex("the table has no skip ring")
    return _nth_of(rings, index)


def skip_index(table, ring):
    """The index of the plain ring of a skip ring among the plain skip rings."""
    check_table(table)
    check_ring(ring, len(table))
    row = begun_at(ring, 0)
    sides = heavy_sides_of_skip(table, row)
    check_size(len(table), MOST_FOUND)
    return SkipRings(row, sides).index_of(plain_trip(ring))


def skip_ring(table):
    """The first plain skip ring, None if there is none."""
    check_table(table)
    rings = _skip_rings(table)
    return None if rings is None else rings.nth(0)


def sure_neighbours(table):
    """The ascending list of the pairs of places that stand side by side on all skip rings."""
    check_table(table)
    return _some_skip_rings(table).sure_pairs()


def possible_neighbours(table):
    """The ascending list of the pairs of places that stand side by side on some skip ring."""
    check_table(table)
    return _some_skip_rings(table).possible_pairs()


def count_trips(table, stops):
    """How many plain trips through some stops are shortest."""
    check_table(table)
    check_stops(stops, len(table))
    return _shortest_trips(table, sorted(stops)).many()


def nth_trip(table, stops, index):
    """The shortest plain trip through some stops with an index, ascending."""
    check_table(table)
    check_stops(stops, len(table))
    check_index(index)
    numbered = sorted(stops)
    return [numbered[number] for number in _nth_of(_shortest_trips(table, numbered), index)]


def common_skip(tables):
    """The first plain ring that is a skip ring of all tables, None if there is none."""
    check_tables(tables)
    places = range(len(tables[0]))
    check_size(len(places), MOST_FOUND)
    total = [[sum([table[one][other] for table in tables]) for other in places] for one in places]
    # The amounts of a common skip ring add up to those of the sum, so none of the tables has a heavy cut that
    # the sum has not: then all skip rings of the sum are common ones, and otherwise none is.
    found = some_skip_ring(total)
    if found is None or not all([goes_skip(table, found[0]) for table in tables]):
        return None
    return SkipRings(found[0], found[1]).nth(0)


def _skip_rings(table):
    """The skip rings of a table, None if it has none; TooLarge."""
    check_size(len(table), MOST_FOUND)
    found = some_skip_ring(table)
    return None if found is None else SkipRings(found[0], found[1])


def _some_skip_rings(table):
    """The skip rings of a table; NoSkipRing if it has none."""
    rings = _skip_rings(table)
    if rings is None:
        raise NoSkipRing("the table has no skip ring")
    return rings


def _shortest_trips(table, stops):
    """The shortest trips through some stops, told by their numbers in the ascending list of them; TooLarge."""
    check_size(len(stops), MOST_FOUND)
    steps = [[table[one][other] for other in stops] for one in stops]
    rings = _skip_rings(steps)
    return ShortestTrips(steps) if rings is None else rings


def _nth_of(rings, index):
    """The one of some rings or trips with an index; InvalidIndex if it is too great."""
    if index >= rings.many():
        raise InvalidIndex("there are not so many")
    return rings.nth(index)
