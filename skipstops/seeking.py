"""Finding one skip ring of a table, if there is any, without trying many.

How near two places are, seen from the place 0, is the length of the way from the one to 0 and on to the other, less
their distance. In the sequence of a skip ring, begun at 0, the outer two of any three places are never nearer than
one of them and the middle one: let such a sequence be called a line. If a table has a skip ring, the sides of its
heavy cuts without 0 stand in one row in every line, so that each line is a skip ring.
"""

from skipstops.cutting import heavy_sides


def some_skip_ring(table):
    """The tuple (ring, sides) of a skip ring begun at 0 and its heavy sides, None if there is none."""
    count = len(table)
    home = table[0]
    near = [[home[one] + home[other] - table[one][other] for other in range(count)] for one in range(count)]
    ring = [0] + _line(near, list(range(1, count)))
    sides = heavy_sides(table, ring)
    return None if sides is None else (ring, sides)


def _line(near, places):
    """A line of the places, if there is one; otherwise any sequence of them."""
    if len(places) < 3 or len({near[one][other] for one in places for other in places if one < other}) == 1:
        return places
    end = _some_end(near, places)
    groups = [[end]] + _grouped([place for place in places if place != end], near[end], -1)
    many = 0
    while many < len(groups) < len(places):
        many = len(groups)
        groups = _parted(near, groups)
    # To all places that are not in one group with them, the places of a group are equally near.
    return [place for group in groups for place in _line(near, group)]


def _some_end(near, places):
    """A place with which some line of the places begins, if there is a line.

    One of both ends of any line is among the places that are least near to a place. Of some places among which
    there is an end, those that are least near to all others are again such.
    """
    kept = places[1:]
    while len(kept) > 1:
        others = [place for place in places if place not in kept]
        least = min([[near[place][other] for other in others] for place in kept])
        ends = [place for place in kept if [near[place][other] for other in others] == least]
        if len(ends) == len(kept):
            # All others are equally near to these, so what is an end of a line of them is an end of one of all.
            places, ends = kept, kept[1:]
        kept = ends
    return kept[0]


def _parted(near, groups):
    """The groups of a line, parted by how near their places are to those of the groups ahead and behind."""
    found = []
    for at in range(len(groups)):
        if len(groups[at]) == 1:
            found.append(groups[at])
        else:
            ahead = [other for group in groups[:at] for other in group]
            behind = [other for group in groups[at + 1:] for other in group]
            pulls = {}
            for place in groups[at]:
                steps = near[place]
                pulls[place] = sum([steps[other] for other in behind]) - sum([steps[other] for other in ahead])
            found.extend(_grouped(groups[at], pulls, 1))
    return found


def _grouped(places, keys, sign):
    """The places in groups with equal keys, ascending, or descending for the sign -1."""
    groups = {}
    for place in places:
        groups.setdefault(sign * keys[place], []).append(place)
    return [groups[key] for key in sorted(groups)]
