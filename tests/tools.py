"""Tables for the tests, and the words of the document turned into slow searches."""

from itertools import combinations, permutations

FIVE = [[0, 3, 5, 4, 2], [3, 0, 4, 5, 3], [5, 4, 0, 3, 5], [4, 5, 3, 0, 4], [2, 3, 5, 4, 0]]
SPLIT = [[0, 2, 1, 1, 1], [2, 0, 1, 1, 1], [1, 1, 0, 2, 2], [1, 1, 2, 0, 2], [1, 1, 2, 2, 0]]
RING = [0, 1, 2, 3, 4]
GREATEST = 10 ** 30


class Numbers:
    """A fixed sequence of numbers that look mixed."""

    def __init__(self, seed):
        self.state = seed

    def below(self, limit):
        self.state = (self.state * 6364136223846793005 + 1442695040888963407) % 2 ** 64
        return (self.state >> 33) % limit

    def mixed(self, items):
        """A list of the items in another sequence."""
        items = list(items)
        return [items.pop(self.below(len(items))) for _ in range(len(items))]


def zeros(count):
    return [[0] * count for _ in range(count)]


def any_table(numbers, count, limit):
    """A table with distances below a limit."""
    table = zeros(count)
    for one, other in combinations(range(count), 2):
        table[one][other] = table[other][one] = numbers.below(limit)
    return table


def ring_sides(ring):
    """For each cut of a ring, found by its words: the tuple of the places on the side without 0."""
    count = len(ring)
    doubled = ring + ring
    sides = set()
    for size in range(2, count - 1):
        for start in range(count):
            row = doubled[start:start + size]
            if 0 not in row:
                sides.add(tuple(sorted(row)))
    return sorted(sides)


def skip_table(numbers, ring, heavy, limit=4):
    """A table for which a ring is a skip ring, with so many cuts drawn to have amounts, all even."""
    count = len(ring)
    table = zeros(count)
    base = [numbers.below(3) for _ in range(count)]
    sides = ring_sides(ring)
    drawn = [(sides[numbers.below(len(sides))], 1 + numbers.below(limit)) for _ in range(heavy if sides else 0)]
    for one, other in combinations(range(count), 2):
        parted = sum(amount for side, amount in drawn if (one in side) != (other in side))
        table[one][other] = table[other][one] = base[one] + base[other] + parted
    return table


def bent_table(numbers, ring, heavy):
    """A table for which a ring is a skip ring, with amounts of places that are mostly below 0 or odd."""
    table = skip_table(numbers, ring, heavy)
    count = len(ring)
    own = [numbers.below(6) for _ in range(count)]
    raised = max([0] + [own[one] + own[other] - table[one][other] for one, other in combinations(range(count), 2)])
    for one, other in combinations(range(count), 2):
        table[one][other] += raised - own[one] - own[other]
        table[other][one] = table[one][other]
    # One place may be nearer to all others, so that ways by it are shorter.
    near = numbers.below(count)
    least = min([table[near][other] for other in range(count) if other != near], default=0)
    for other in range(count):
        if other != near:
            table[near][other] -= least
            table[other][near] -= least
    return table


def skip_pairs(seed, sizes, many):
    """Some tables of several sizes, each with a mixed skip ring."""
    numbers = Numbers(seed)
    pairs = []
    for count in sizes:
        for _ in range(many):
            ring = numbers.mixed(range(count))
            pairs.append((skip_table(numbers, ring, numbers.below(2 * count)), ring))
            pairs.append((bent_table(numbers, ring, numbers.below(2 * count)), ring))
    return pairs


def subsets(places):
    """All sets of some places as ascending tuples, the empty one first."""
    places = sorted(places)
    return [stops for size in range(len(places) + 1) for stops in combinations(places, size)]


def round_by_words(table, ring, stops):
    """The length of the trip round a ring through some stops, 0 for none."""
    return closed_length(table, in_ring_sequence(ring, stops))


def sided_table(numbers, count, many, flaws=0):
    """A table of a few sides of a mixed ring, each with the amount 2, with some distances changed by 1."""
    ring = numbers.mixed(range(count))
    table = zeros(count)
    for _ in range(many):
        start, size = numbers.below(count), 1 + numbers.below(count)
        side = {ring[(start + at) % count] for at in range(size)}
        for one, other in combinations(range(count), 2):
            table[one][other] += (one in side) != (other in side)
            table[other][one] = table[one][other]
    for _ in range(flaws):
        one, other = numbers.mixed(range(count))[:2]
        table[one][other] = table[other][one] = max(0, table[one][other] + 2 * numbers.below(2) - 1)
    return table


def drawn_tables(seed, sizes, many):
    """Tables of several sizes: any ones, and ones that have skip rings."""
    numbers = Numbers(seed)
    tables = []
    for count in sizes:
        for _ in range(many):
            tables.append(any_table(numbers, count, 3))
            tables.append(any_table(numbers, count, 10))
            tables.append(skip_table(numbers, numbers.mixed(range(count)), numbers.below(2 * count)))
    return tables


def closed_length(table, trip):
    """The length of a trip, step by step."""
    total = 0
    for at in range(len(trip)):
        total += table[trip[at]][trip[(at + 1) % len(trip)]]
    return total


def plain_trips(stops):
    """All plain trips through some stops, ascending."""
    first, *others = sorted(stops)
    trips = [[first, *rest] for rest in permutations(others)]
    return [trip for trip in trips if len(trip) < 3 or trip[1] < trip[-1]]


def plain_rings(count):
    return plain_trips(range(count))


def in_ring_sequence(ring, stops):
    return [place for place in ring if place in stops]


def barred_by(table, ring, stops):
    """Whether some trip through the stops is shorter than the one round the ring."""
    limit = closed_length(table, in_ring_sequence(ring, stops))
    return any(closed_length(table, trip) < limit for trip in plain_trips(stops))


def skips_by_words(table, ring):
    """Whether no set of stops has a shorter trip than the one round the ring."""
    places = range(len(table))
    return not any(barred_by(table, ring, stops) for size in places for stops in combinations(places, size + 1))


def bars_by_words(table, ring):
    """All bars of a ring."""
    return [stops for stops in combinations(range(len(table)), 4) if barred_by(table, ring, stops)]


def rings_by_words(table):
    """All plain skip rings of a table, ascending."""
    return [ring for ring in plain_rings(len(table)) if skips_by_words(table, ring)]


def shortest_by_words(table, stops):
    """All shortest plain trips through some stops, ascending."""
    trips = plain_trips(stops)
    least = min(closed_length(table, trip) for trip in trips)
    return [trip for trip in trips if closed_length(table, trip) == least]


def beside(ring):
    """The set of the pairs of places that stand side by side on a ring."""
    pairs = [tuple(sorted((ring[at - 1], ring[at]))) for at in range(len(ring))]
    return {pair for pair in pairs if pair[0] != pair[1]}


def exact(value):
    """A value with the kinds of all its parts, so that True is told from 1."""
    if isinstance(value, (list, tuple)):
        return (type(value).__name__, [exact(item) for item in value])
    return (type(value).__name__, value)


def lists_in(value):
    """All lists in a value of lists and tuples, itself included, as often as they occur."""
    if not isinstance(value, (list, tuple)):
        return []
    found = [value] if isinstance(value, list) else []
    for item in value:
        found += lists_in(item)
    return found


def crossing_by_words(cut, other_cut, count):
    """Whether each side of one cut has a place in common with each side of another one."""
    sides = [(set(one), set(range(count)) - set(one)) for one in (cut, other_cut)]
    return all(side & other for side in sides[0] for other in sides[1])


def drawn_tree(numbers, count, limit):
    """The roads of a tree with mixed numbers of its places, in a mixed sequence and mixed directions."""
    places = numbers.mixed(range(count))
    roads = []
    for at in range(1, count):
        ends = numbers.mixed([places[at], places[numbers.below(at)]])
        roads.append((ends[0], ends[1], numbers.below(limit)))
    return numbers.mixed(roads)


def tree_by_words(count, roads):
    """The lengths of the ways along the roads, each gone from its begin."""
    def go(place, came_from, length, lengths):
        lengths[place] = length
        for one, other, more in roads:
            for there, here in ((one, other), (other, one)):
                if here == place and there != came_from:
                    go(there, place, length + more, lengths)

    table = []
    for place in range(count):
        lengths = [None] * count
        go(place, None, 0, lengths)
        table.append(lengths)
    return table


def walk_by_words(count, roads):
    """The places of a tree as a walk meets them that turns to the least neighbour, or goes back."""
    met = [0]
    way = [0]
    while way:
        near = [other for one, other, _ in roads if one == way[-1]] + [one for one, other, _ in roads if other == way[-1]]
        new = [place for place in near if place not in met]
        if new:
            met.append(min(new))
            way.append(min(new))
        else:
            way.pop()
    return met


def ring_road_by_words(lengths):
    """The distances on a ring road, gone piece by piece in both directions."""
    count = len(lengths)
    table = zeros(count)
    for one in range(count):
        for other in range(count):
            forth = back = 0
            place = one
            while place != other:
                forth += lengths[place]
                place = (place + 1) % count
            place = one
            while place != other:
                place = (place - 1) % count
                back += lengths[place]
            table[one][other] = min(forth, back)
    return table


def lines_of(table):
    """The lines of the text of a table."""
    return [" ".join(f"{distance}" for distance in table[place][:place]) for place in range(1, len(table))]
