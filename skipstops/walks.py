"""The best walks along a row of places, for values that are known to be right.

A row is a list of places, at first a stop. A walk begins there, goes on to places further and further behind in the
row, by all of some sure ones, and then back. So a row of the places of a ring, in its sequence, has the trips round
this ring as its walks.
"""


def reach_of(table):
    """A bound of the lengths of all walks: none is longer, or further below 0."""
    return sum([sum([abs(distance) for distance in row]) for row in table])


def least_lengths(table, row, sure, most):
    """The least lengths of the walks with one stop, with two, .. and with `most`.

    Where there is no walk with so many stops it is a number above the reach of the table.
    """
    none = 2 * reach_of(table) + 1
    lows = _lows(row, sure)
    steps = [[table[row[at]][place] for place in row[lows[at]:at]] for at in range(len(row))]
    low = lows[-1]
    home = [table[row[0]][place] for place in row[low:]]
    ways = [0] + [none] * (len(row) - 1)
    lengths = []
    for many in range(1, most + 1):
        lengths.append(min([way + step for way, step in zip(ways[low:], home)]))
        # The next stop stands at least so many places behind the first one.
        ways = [none] * many + [
            min([way + step for way, step in zip(ways[lows[at]:at], steps[at])]) for at in range(many, len(row))
        ]
    return lengths


def best_walk(table, gains, row, sure):
    """The tuple (worth, stops) of a walk with the greatest sum of the gains of its stops less its length."""
    lows = _lows(row, sure)
    worths = [gains[row[0]]]
    ahead = [0]
    for at in range(1, len(row)):
        steps = table[row[at]]
        came = [worths[behind] - steps[row[behind]] for behind in range(lows[at], at)]
        best = max(came)
        ahead.append(lows[at] + came.index(best))
        worths.append(best + gains[row[at]])
    home = table[row[0]]
    closed = [worths[last] - home[row[last]] for last in range(lows[-1], len(row))]
    worth = max(closed)
    at = lows[-1] + closed.index(worth)
    stops = [row[at]]
    while at > 0:
        at = ahead[at]
        stops.append(row[at])
    return (worth, stops)


def _lows(row, sure):
    """For each number of the row, and for the way back, the first number from which a walk can come there."""
    low = 0
    lows = []
    for at in range(len(row)):
        lows.append(low)
        if row[at] in sure:
            low = at
    return lows + [low]
