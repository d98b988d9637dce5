"""The cuts of a ring, and the amounts of places and cuts."""

from skipstops.checks import check_amounts, check_any_ring, check_distances, check_ring, check_table
from skipstops.cutting import all_cuts, amounts_from, first_bar, goes_skip, heavy_sides_of_skip, own_amounts
from skipstops.errors import InvalidCuts, NoTable
from skipstops.kinds import is_integer, is_integer_tuple, makes_stops
from skipstops.trips import begun_at, round_length, trip_around


def cuts_of(ring):
    """The ascending list of all cuts of a ring."""
    check_any_ring(ring)
    return sorted([cut for cuts in all_cuts(begun_at(ring, 0)) for cut in cuts])


def cut_amounts(table, ring):
    """The ascending list of (cut, amount) of all cuts."""
    check_table(table)
    check_ring(ring, len(table))
    row = begun_at(ring, 0)
    found = []
    for first, cuts in enumerate(all_cuts(row)):
        if cuts:
            found.extend(list(zip(cuts, amounts_from(table, row, first))))
    return _ascending(found)


def place_amounts(table, ring):
    """The list of the amounts of the places."""
    check_table(table)
    check_ring(ring, len(table))
    return own_amounts(table, ring)


def is_skip(table, ring):
    """Whether a ring is a skip ring of a table."""
    check_table(table)
    check_ring(ring, len(table))
    return goes_skip(table, ring)


def bar_of(table, ring):
    """A bar of a ring, None for a skip ring."""
    check_table(table)
    check_ring(ring, len(table))
    return first_bar(table, ring)


def is_bar(table, ring, value):
    """Whether any value is a bar of a ring."""
    check_table(table)
    check_ring(ring, len(table))
    if not is_integer_tuple(value) or len(value) != 4:
        return False
    stops = list(value)
    if not makes_stops(len(table), stops) or stops != sorted(stops):
        return False
    one, two, three, four = stops
    trips = [[one, two, three, four], [one, two, four, three], [one, three, two, four]]
    shortest = min([round_length(table, trip) for trip in trips])
    return shortest < round_length(table, trip_around(ring, stops))


def heavy_cuts(table, ring):
    """The ascending list of (cut, amount) of the heavy cuts of a skip ring."""
    check_table(table)
    check_ring(ring, len(table))
    row = begun_at(ring, 0)
    sides = heavy_sides_of_skip(table, row)
    return _ascending([(tuple(sorted(row[first:last + 1])), amount) for first, last, amount in sides])


def table_with(ring, amounts, cuts):
    """The table with these amounts of the places and of the cuts of a ring."""
    check_any_ring(ring)
    check_amounts(amounts, len(ring))
    _check_cuts(cuts, {cut: True for cut in cuts_of(ring)})
    _check_short(amounts)
    table = [[_half(double) for double in row] for row in _doubles(amounts, cuts)]
    check_distances(table)
    return table


def _ascending(pairs):
    """The list of tuples (cut, amount), ascending."""
    # No cut is there twice, so the amounts need not be compared.
    return sorted(pairs, key=lambda pair: pair[0])


def _check_cuts(cuts, known):
    """InvalidCuts unless they are tuples of a known cut and an integer, ascending."""
    if type(cuts) is not list or not all([_is_cut_amount(pair, known) for pair in cuts]):
        raise InvalidCuts("cuts must be a list of tuples of a cut of the ring and an integer")
    if any([cuts[at][0] >= cuts[at + 1][0] for at in range(len(cuts) - 1)]):
        raise InvalidCuts("the cuts must be ascending")


def _is_cut_amount(pair, known):
    """Whether a value is a tuple of a known cut and an integer."""
    if type(pair) is not tuple or len(pair) != 2:
        return False
    cut, amount = pair
    # True is equal to 1, so a cut is found among the known ones only if it has integers alone.
    return is_integer_tuple(cut) and cut in known and is_integer(amount)


def _check_short(amounts):
    """NoTable if one or two places cannot have these amounts."""
    if len(amounts) == 1 and amounts[0] != 0:
        raise NoTable("a single place must have the amount 0")
    if len(amounts) == 2 and amounts[0] != amounts[1]:
        raise NoTable("two places must have equal amounts")


def _doubles(amounts, cuts):
    """Twice each distance: the amounts of both places and of the cuts that part them."""
    count = len(amounts)
    doubles = [[amounts[one] + amounts[other] for other in range(count)] for one in range(count)]
    for place in range(count):
        doubles[place][place] = 0
    for cut, amount in cuts:
        for one in cut:
            for other in range(count):
                if other not in cut:
                    doubles[one][other] += amount
                    doubles[other][one] += amount
    return doubles


def _half(double):
    """Half of an integer; NoTable if it is odd."""
    if double // 2 * 2 != double:
        raise NoTable("twice a distance must be even")
    return double // 2
