"""Tables of trees and of ring roads, and what tells them from others."""

from skipstops.checks import check_count, check_distances, check_ring, check_table
from skipstops.cutting import heavy_sides_of_skip
from skipstops.errors import InvalidLengths, InvalidRoads
from skipstops.kinds import makes_distance, makes_place, makes_row
from skipstops.trips import begun_at, plain_trip

LEAST_LENGTHS = 3
MOST_LENGTHS = 30


def tree_table(count, roads):
    """The table of the lengths of the ways along the roads of a tree."""
    steps = _walk_of(count, roads)
    table = [[0] * count for _ in range(count)]
    met = []
    for place, behind, length in steps:
        for other in met:
            table[place][other] = table[other][place] = table[behind][other] + length
        met.append(place)
    check_distances(table)
    return table


def walk_ring(count, roads):
    """The plain ring of the places of a tree in the sequence in which a walk round it meets them first."""
    return plain_trip([place for place, _, _ in _walk_of(count, roads)])


def ring_table(lengths):
    """The table of a ring road with pieces of these lengths."""
    _check_lengths(lengths)
    places = range(len(lengths))
    table = [[_shorter_way(lengths, min(one, other), max(one, other)) for other in places] for one in places]
    check_distances(table)
    return table


def crossing_cuts(table, ring):
    """The first tuple of two heavy cuts that cross, None if no two do."""
    check_table(table)
    check_ring(ring, len(table))
    row = begun_at(ring, 0)
    sides = heavy_sides_of_skip(table, row)
    spans = sorted([(tuple(sorted(row[first:last + 1])), first, last) for first, last, _ in sides])
    for at, (cut, first, last) in enumerate(spans):
        for other_cut, other_first, other_last in spans[at + 1:]:
            # The other sides have the place 0 in common.
            if first < other_first <= last < other_last or other_first < first <= other_last < last:
                return (cut, other_cut)
    return None


def _walk_of(count, roads):
    """The list of (place, behind, length) of a walk round a tree: each place as it is met first, and the road to it.

    It begins with the place 0, to which there is none.
    """
    check_count(count)
    if type(roads) is not list or len(roads) != count - 1 or not all([_is_road(count, road) for road in roads]):
        raise InvalidRoads("roads must be a list of one tuple less than there are places, of two places and a length")
    steps = _steps(count, roads)
    if len(steps) < count:
        raise InvalidRoads("each place must be reached from each other one by the roads")
    return steps


def _is_road(count, value):
    """Whether a value is a tuple of two places and a distance."""
    if type(value) is not tuple or len(value) != 3:
        return False
    one, other, length = value
    return makes_place(count, one) and makes_place(count, other) and makes_distance(length)


def _steps(count, roads):
    """The list of (place, behind, length) of the places that can be reached from 0, as they are met first."""
    ways = [[] for _ in range(count)]
    for one, other, length in roads:
        ways[one].append((other, length))
        ways[other].append((one, length))
    met = [False] * count
    steps = []
    coming = [(0, 0, 0)]
    while coming:
        step = coming.pop()
        place = step[0]
        if not met[place]:
            met[place] = True
            steps.append(step)
            # The least neighbour comes last, so that it is taken first.
            coming.extend(sorted([(other, place, length) for other, length in ways[place]], reverse=True))
    return steps


def _check_lengths(lengths):
    """InvalidLengths unless they are those of the pieces of a ring road."""
    if type(lengths) is not list or not LEAST_LENGTHS <= len(lengths) <= MOST_LENGTHS:
        raise InvalidLengths("lengths must be a list of 3 to 30 integers")
    if not makes_row(len(lengths), lengths):
        raise InvalidLengths("each length must be an integer from 0 to 10 ** 30")


def _shorter_way(lengths, low, high):
    """The length of the shorter one of both ways along a ring road between two places, the lesser one first."""
    return min(sum(lengths[low:high]), sum(lengths[high:] + lengths[:low]))
