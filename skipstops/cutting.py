"""The cuts of a ring and what they tell, for values that are known to be right."""

from skipstops.errors import NotSkip


def cut_corners(ring):
    """The ascending list of (cut, corners) of all cuts.

    The corners (w, x, y, z) are the ends x and y of the side without the place 0, and the places w and z that
    stand ahead of x and behind y.
    """
    count = len(ring)
    start = ring.index(0)
    begun = ring[start:] + ring[:start + 1]
    found = []
    for first in range(1, count):
        for last in range(first + 1, count):
            # The other side has two places or more, too.
            if last - first < count - 2:
                cut = tuple(sorted(begun[first:last + 1]))
                found.append((cut, (begun[first - 1], begun[first], begun[last], begun[last + 1])))
    return sorted(found)


def corner_amount(table, corners):
    """The amount of the cut with these corners."""
    w, x, y, z = corners
    return table[w][y] + table[x][z] - table[x][y] - table[w][z]


def first_bar(table, ring):
    """A bar of the ring, None if it is a skip ring."""
    for cut, corners in cut_corners(ring):
        # An amount below 0 tells that going w, x, z, y is shorter than going round.
        if corner_amount(table, corners) < 0:
            return tuple(sorted(corners))
    return None


def goes_skip(table, ring):
    """Whether the ring is a skip ring."""
    return first_bar(table, ring) is None


def check_skip(table, ring):
    """NotSkip unless the ring is a skip ring."""
    if not goes_skip(table, ring):
        raise NotSkip("the ring is not a skip ring of the table")
