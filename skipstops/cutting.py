"""The cuts of a ring and what they tell, for values that are known to be right."""

from skipstops.errors import NotSkip


def cut_corners(ring):
    """The ascending list of (cut, corners) of all cuts.

    The corners (w, x, y, z) are the ends x and y of the side without the place 0, and the places w and z that
    stand ahead of x and behind y.
    """
    count = len(ring)
    start = ring.index(0)
    begun = ring[start:] + ring[:start + 1]
    found = []
    for first in range(1, count):
        for last in range(first + 1, count):
            # The other side has two places or more, too.
            if last - first < count - 2:
                cut = tuple(sorted(begun[first:last + 1]))
                found.append((cut, (begun[first - 1], begun[first], begun[last], begun[last + 1])))
    return sorted(found)


def corner_amount(table, corners):
    """The amount of the cut with these corners."""
    w, x, y, z = corners
    return table[w][y] + table[x][z] - table[x][y] - table[w][z]


def row_amounts(table, row):
    """The list of (first, last, amount) of all cuts, the row being a ring begun at any place.

    The side without this place goes from row[first] to row[last].
    """
    count = len(row)
    closed = row + row[:1]
    found = []
    for first in range(1, count):
        behind, begun = table[row[first - 1]], table[row[first]]
        nearer = [behind[place] - begun[place] for place in closed]
        for last in range(first + 1, count):
            # The other side has two places or more, too.
            if last - first < count - 2:
                found.append((first, last, nearer[last] - nearer[last + 1]))
    return found


def heavy_sides(table, row):
    """The list of (first, last) of the heavy cuts, the row being a ring begun at any place; None if it has a bar.

    The side without this place goes from row[first] to row[last].
    """
    sides = []
    for first, last, amount in row_amounts(table, row):
        if amount < 0:
            return None
        if amount > 0:
            sides.append((first, last))
    return sides


def own_amounts(table, ring):
    """The list of the amounts of the places."""
    count = len(ring)
    if count < 3:
        # One place has 0, two places both have their distance: the greatest entry of their row.
        return [max(row) for row in table]
    amounts = [0] * count
    for at in range(count):
        behind, place, ahead = ring[at - 1], ring[at], ring[at + 1 - count]
        amounts[place] = table[place][behind] + table[place][ahead] - table[behind][ahead]
    return amounts


def first_bar(table, ring):
    """A bar of the ring, None if it is a skip ring."""
    for cut, corners in cut_corners(ring):
        # An amount below 0 tells that going w, x, z, y is shorter than going round.
        if corner_amount(table, corners) < 0:
            return tuple(sorted(corners))
    return None


def goes_skip(table, ring):
    """Whether the ring is a skip ring."""
    return first_bar(table, ring) is None


def check_skip(table, ring):
    """NotSkip unless the ring is a skip ring."""
    if not goes_skip(table, ring):
        raise NotSkip("the ring is not a skip ring of the table")
