"""Shares of the costs of a trip from a depot."""

from math import lcm

from skipstops.checks import check_group, check_place, check_ring, check_sequence, check_table
from skipstops.cutting import check_skip, own_amounts, row_amounts
from skipstops.errors import Bending, InvalidShares
from skipstops.kinds import makes_fraction
from skipstops.ratios import lowest, with_one_bottom
from skipstops.trips import begun_at, met_round, round_length
from skipstops.walks import best_walk


def costs(table, ring, depot, group):
    """The costs of a group."""
    _check_depot(table, ring, depot)
    check_group(group, depot, len(table))
    check_skip(table, ring)
    return _costs(table, ring, depot, group)


def fair_shares(table, ring, depot):
    """The fair shares of all places."""
    _check_depot(table, ring, depot)
    check_skip(table, ring)
    count = len(ring)
    if count == 1:
        return [(0, 1)]
    unit = 1
    for many in range(1, count):
        unit = lcm(unit, many)
    own = own_amounts(table, ring)
    row = begun_at(ring, depot)
    # For each number of the row by how much more the cuts give to its place than to the one ahead.
    rises = [0] * (count + 1)
    for first, last, amount in row_amounts(table, row):
        part = amount * (unit // (last - first + 1))
        rises[first] += part
        rises[last + 1] -= part
    shares = [(0, 1)] * count
    given = own[depot] * (unit // (count - 1))
    for at in range(1, count):
        given += rises[at]
        shares[row[at]] = lowest(own[row[at]] * unit + given, unit)
    return shares


def shares_by(table, ring, depot, sequence):
    """What each place adds to the costs if the others join in this sequence."""
    _check_depot(table, ring, depot)
    check_sequence(sequence, depot, len(table))
    check_skip(table, ring)
    row = begun_at(ring, depot)
    joined = [place == depot for place in row]
    shares = [0] * len(row)
    for place in sequence:
        at = row.index(place)
        # The depot is met on both ways, at the number 0 or, behind the last one, again at 0.
        behind = row[max([k for k in range(at) if joined[k]])]
        ahead = row[min([k for k in range(at + 1, len(row)) if joined[k]], default=0)]
        shares[place] = table[behind][place] + table[place][ahead] - table[behind][ahead]
        joined[at] = True
    return shares


def bending(table, ring, depot):
    """The first tuple of two others, the lesser one first, that bend; None if no two do."""
    _check_depot(table, ring, depot)
    check_skip(table, ring)
    return _first_bending(table, depot)


def pays_beyond(table, ring, depot, shares):
    """The tuple (group, excess) of a group that pays beyond its costs by as much as any does; None if none does."""
    _check_depot(table, ring, depot)
    _check_shares(table, ring, depot, shares)
    check_skip(table, ring)
    tops, unit = with_one_bottom(shares)
    parts = [[unit * distance for distance in row] for row in table]
    excess, stops = best_walk(parts, tops, begun_at(ring, depot), [])
    if excess <= 0:
        return None
    return (sorted([place for place in stops if place != depot]), lowest(excess, unit))


def limits(table, ring, depot, group):
    """The tuple (least, most) of what a group pays by all shares by which no group pays beyond its costs."""
    _check_depot(table, ring, depot)
    check_group(group, depot, len(table))
    check_skip(table, ring)
    _check_straight(table, depot)
    # Since a place never adds more to a greater group, both bounds are reached: the group joins last or first.
    others = [place for place in ring if place != depot and place not in group]
    return (round_length(table, ring) - _costs(table, ring, depot, others), _costs(table, ring, depot, group))


def even_steps(table, ring, depot):
    """The list of the tuples (share, group) of what the places of each group pay by the even shares."""
    _check_depot(table, ring, depot)
    check_skip(table, ring)
    _check_straight(table, depot)
    row = begun_at(ring, depot)
    ahead = [depot]
    steps = []
    while len(ahead) < len(row):
        group = _next_group(table, row, ahead)
        steps.append((lowest(_added(table, row, ahead, group), len(group)), sorted(group)))
        ahead = ahead + group
    return steps


def _check_depot(table, ring, depot):
    """The errors of the parameters that stand first in each function."""
    check_table(table)
    check_ring(ring, len(table))
    check_place(depot, len(table))


def _check_shares(table, ring, depot, shares):
    """InvalidShares unless they are shares of the costs of all places."""
    if type(shares) is not list or len(shares) != len(table) or not all([makes_fraction(share) for share in shares]):
        raise InvalidShares("shares must be a list with a fraction for each place")
    if shares[depot][0] != 0:
        raise InvalidShares("the share of the depot must be 0")
    tops, unit = with_one_bottom(shares)
    if sum(tops) != unit * round_length(table, ring):
        raise InvalidShares("the sum of the shares must be the costs of all places")


def _check_straight(table, depot):
    """Bending if two others bend."""
    pair = _first_bending(table, depot)
    if pair is not None:
        raise Bending(pair[0], pair[1])


def _first_bending(table, depot):
    """The first tuple of two others that bend, None if no two do."""
    home = table[depot]
    for one in range(len(table)):
        for other in range(one + 1, len(table)):
            # With the depot itself as one of both, the way by it is as long as their distance.
            if home[one] + home[other] < table[one][other]:
                return (one, other)
    return None


def _costs(table, ring, depot, group):
    """The costs of a group of others: the way of the depot alone has the length 0."""
    return round_length(table, met_round(ring, group + [depot]))


def _added(table, row, ahead, group):
    """What a group adds to the costs of those ahead of it; the depot is one of these."""
    return round_length(table, met_round(row, ahead + group)) - round_length(table, met_round(row, ahead))


def _next_group(table, row, ahead):
    """The greatest group of those that add least to the costs of those ahead for each of their places."""
    group = [place for place in row if place not in ahead]
    while True:
        top, bottom = _added(table, row, ahead, group), len(group)
        # No group is worth less than this one at its own rate, and if none is worth more, no rate is less.
        group = _best_at_rate(table, row, ahead, top, bottom)
        if _added(table, row, ahead, group) * bottom == top * len(group):
            return group


def _best_at_rate(table, row, ahead, top, bottom):
    """The greatest group of those that add least to the costs less so much for each of their places."""
    # A weight above the number of the places: of groups worth the same the one with most places is best.
    weight = len(row) + 1
    parts = [[bottom * weight * distance for distance in distances] for distances in table]
    gains = [0 if place in ahead else top * weight + 1 for place in range(len(row))]
    stops = best_walk(parts, gains, row, ahead)[1]
    return [place for place in stops if place not in ahead]
