"""The cuts of a ring and what they tell, for values that are known to be right.

A row is a ring, begun at any place. Each cut has one side without this place, from row[first] to row[last].
"""

from skipstops.errors import NotSkip


def all_cuts(row):
    """For each number of a row the list of the ascending tuples of the sides that begin there, the shortest first.

    The row begins with the place 0. Sides of one place and the side of all others, which are those of no cuts, are
    left out.
    """
    count = len(row)
    found = [[] for _ in row]
    behind = []
    for first in range(count - 1, 0, -1):
        place = row[first]
        sides = [(place,)]
        at = 0
        for other, side in zip(row[first + 1:], behind):
            # The side without this place is ascending, so it is put behind those that are less.
            if other < place:
                at += 1
            sides.append(side[:at] + (place,) + side[at:])
        found[first] = sides[1:] if first > 1 else sides[1:-1]
        behind = sides
    return found


def amounts_from(table, row, first):
    """The list of the amounts of the cuts whose sides begin at a number of the row, the shortest side first."""
    nearer = _nearer(table, row, first)
    return [nearer[at - 1] - nearer[at] for at in range(1, len(nearer))]


def row_amounts(table, row):
    """The list of (first, last, amount) of all cuts."""
    found = []
    for first in range(1, len(row) - 1):
        found.extend([(first, last, amount) for last, amount in enumerate(amounts_from(table, row, first), first + 1)])
    return found


def heavy_sides(table, row):
    """The list of (first, last, amount) of the heavy cuts; None if the ring is no skip ring."""
    found = []
    for first in range(1, len(row) - 1):
        nearer = _nearer(table, row, first)
        if nearer != sorted(nearer, reverse=True):
            return None
        if nearer and nearer[0] > nearer[-1]:
            found.extend([
                (first, first + at, nearer[at - 1] - nearer[at])
                for at in range(1, len(nearer)) if nearer[at - 1] > nearer[at]
            ])
    return found


def heavy_sides_of_skip(table, row):
    """The list of (first, last, amount) of the heavy cuts; NotSkip unless the ring is a skip ring."""
    sides = heavy_sides(table, row)
    if sides is None:
        raise NotSkip("the ring is not a skip ring of the table")
    return sides


def first_bar(table, ring):
    """A bar of the ring, None if it is a skip ring."""
    for first in range(1, len(ring) - 1):
        nearer = _nearer(table, ring, first)
        if nearer != sorted(nearer, reverse=True):
            last = first + min([at for at in range(1, len(nearer)) if nearer[at - 1] < nearer[at]])
            # Since the amount is below 0, going w, x, z, y is shorter than going round w, x, y, z.
            return tuple(sorted([ring[first - 1], ring[first], ring[last], ring[last + 1 - len(ring)]]))
    return None


def goes_skip(table, ring):
    """Whether the ring is a skip ring."""
    return first_bar(table, ring) is None


def check_skip(table, ring):
    """NotSkip unless the ring is a skip ring."""
    if not goes_skip(table, ring):
        raise NotSkip("the ring is not a skip ring of the table")


def own_amounts(table, ring):
    """The list of the amounts of the places."""
    count = len(ring)
    if count < 3:
        # One place has 0, two places both have their distance: the greatest entry of their row.
        return [max(row) for row in table]
    amounts = [0] * count
    for at in range(count):
        behind, place, ahead = ring[at - 1], ring[at], ring[at + 1 - count]
        amounts[place] = table[place][behind] + table[place][ahead] - table[behind][ahead]
    return amounts


def corner_amount(table, corners):
    """The amount of the cut with a side from x to y, w standing ahead of x and z behind y."""
    w, x, y, z = corners
    return table[w][y] + table[x][z] - table[x][y] - table[w][z]


def _nearer(table, row, first):
    """By how much the places behind row[first] are nearer to it than to the one ahead of it, each in turn.

    From one to the next this falls by the amount of the cut whose side begins at row[first] and ends at the one.
    """
    far, near = table[row[first - 1]], table[row[first]]
    # Behind the last place comes the first one again; but the side of all others is that of no cut.
    places = row[first + 1:] + row[:1] if first > 1 else row[2:]
    return [far[place] - near[place] for place in places]
