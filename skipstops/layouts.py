"""All skip rings of a table, told by one of them and its heavy cuts.

The heavy sides without the place 0 make a tree of blocks: places that stand in one row in every skip ring. The parts
of a block may stand in any sequence; those of a firm block, which is held together by sides that overlap, in one
sequence, forwards or backwards. Each way to lay out the tree behind the place 0 is a skip ring, and there are no
others; from three places on each one is laid out forwards and backwards.
"""

from math import factorial


class SkipRings:
    """The plain skip rings, ascending.

    Parts are numbers: the places, and behind them the blocks. For each part `pieces` has the parts that it is made
    of, `firm` whether they keep their sequence, `ways` in how many ways it can be laid out, `ends` the places that
    can stand first then.
    """

    def __init__(self, row, sides):
        """From a skip ring begun at 0, and its heavy sides without 0: (first, last, amount)."""
        self.row = row
        self.pieces = [[] for _ in row]
        self.firm = [False] * len(row)
        self.ways = [1] * len(row)
        self.ends = [[place] for place in range(len(row))]
        self.bounds = _bounds_of(sides)
        self.spans = {}
        for first, last in self.bounds:
            self.spans.setdefault(first, []).append(last)
        self.whole = self._part(1, len(row) - 1)

    def many(self):
        """How many there are."""
        return self.ways[self.whole] if len(self.row) < 3 else self.ways[self.whole] // 2

    def nth(self, index):
        """The one with an index, for which there is one."""
        begun = BegunRing(self)
        for _ in self.row[1:]:
            for place, part in begun.choices():
                frames, many = begun.going_on(place, part)
                if index < many:
                    begun.go_on(place, frames)
                    break
                index -= many
        return begun.places

    def index_of(self, ring):
        """The index of one of them."""
        begun = BegunRing(self)
        index = 0
        for wanted in ring[1:]:
            for place, part in begun.choices():
                frames, many = begun.going_on(place, part)
                if place == wanted:
                    begun.go_on(place, frames)
                    break
                index += many
        return index

    def possible_pairs(self):
        """The ascending list of the tuples of two places that stand side by side on some of them."""
        pairs = [(0, place) for place in self.ends[self.whole]]
        for block in range(len(self.row), len(self.pieces)):
            for one, other in self._neighbours(block):
                pairs.extend([(min(x, y), max(x, y)) for x in self.ends[one] for y in self.ends[other]])
        return sorted(pairs)

    def sure_pairs(self):
        """The ascending list of the tuples of two places that stand side by side on all of them."""
        count = len(self.row)
        pairs = []
        # A block can be turned round, so it is no sure neighbour of anything.
        if self._is_held(self.whole):
            outer = self._outer(self.whole) or [self.whole]
            pairs.extend([(0, part) for part in outer if part < count])
        for block in range(count, len(self.pieces)):
            if self._is_held(block):
                neighbours = self._neighbours(block)
                pairs.extend([(min(pair), max(pair)) for pair in neighbours if max(pair) < count])
        return sorted(pairs)

    def laid_out(self, firm, parts, low):
        """In how many ways some parts can be laid out such that the last place is above `low`."""
        ways = 1
        for part in parts:
            ways = ways * self.ways[part]
        if low < 0:
            return ways if firm else ways * factorial(len(parts))
        if firm:
            return ways // self.ways[parts[-1]] * self._ending(parts[-1], low)
        return factorial(len(parts) - 1) * sum([ways // self.ways[part] * self._ending(part, low) for part in parts])

    def _ending(self, part, low):
        """In how many ways a part can be laid out such that the last place is above `low`."""
        pieces = self.pieces[part]
        if not pieces:
            return 1 if part > low else 0
        if self.firm[part]:
            return self.laid_out(True, pieces, low) + self.laid_out(True, pieces[::-1], low)
        return self.laid_out(False, pieces, low)

    def _part(self, first, last):
        """The part with the places from a first number of the row to a last one."""
        if first == last:
            return self.row[first]
        bounds = self.bounds.get((first, last), [])
        if bounds:
            pieces = [self._part(bounds[at - 1] + 1, bounds[at]) for at in range(1, len(bounds))]
        else:
            pieces = []
            at = first
            while at <= last:
                # The widest block that begins here inside.
                inner = [span for span in self.spans.get(at, []) if span <= last and span - at < last - first]
                end = max(inner) if inner else at
                pieces.append(self._part(at, end))
                at = end + 1
        return self._block(pieces, bool(bounds))

    def _block(self, pieces, firm):
        """A new block."""
        ways = 2 if firm else factorial(len(pieces))
        for piece in pieces:
            ways = ways * self.ways[piece]
        self.pieces.append(pieces)
        self.firm.append(firm)
        self.ways.append(ways)
        self.ends.append([place for piece in self._outer(len(self.pieces) - 1) for place in self.ends[piece]])
        return len(self.pieces) - 1

    def _outer(self, part):
        """The pieces of a part that can stand first or last."""
        pieces = self.pieces[part]
        return [pieces[0], pieces[-1]] if self.firm[part] else pieces

    def _is_held(self, part):
        """Whether the pieces of a part always are neighbours in the same way."""
        return self.firm[part] or len(self.pieces[part]) < 3

    def _neighbours(self, block):
        """The pairs of pieces of a block that can stand side by side."""
        pieces = self.pieces[block]
        if self.firm[block]:
            return [(pieces[at - 1], pieces[at]) for at in range(1, len(pieces))]
        return [(pieces[at], other) for at in range(len(pieces)) for other in pieces[at + 1:]]


class BegunRing:
    """A plain skip ring that is laid out place by place.

    Each of its frames is for a block that is begun: (firm, parts, low, outer) with the parts that are left of it. The
    last place of the ring must be above `low`; outside of the frame in which it will stand, `low` is -1. `outer` is
    in how many ways all frames ahead can be laid out.
    """

    def __init__(self, rings):
        self.rings = rings
        self.places = [0]
        self.frames = [(False, [rings.whole], -1, 1)]

    def choices(self):
        """The ascending list of the tuples (place, part) of the places that can come next, and the parts begun so."""
        firm, parts, _, _ = self.frames[-1]
        ends = self.rings.ends
        return sorted([(place, part) for part in (parts[:1] if firm else parts) for place in ends[part]])

    def going_on(self, place, part):
        """The tuple (frames, many) if the ring goes on with a place: how many rings go on so."""
        firm, parts, low, outer = self.frames[-1]
        frames = self.frames[:-1]
        if len(self.places) == 1 and len(self.rings.row) > 2:
            # The last place of a plain ring is above its second one.
            low = place
        parts = [one for one in parts if one != part]
        while True:
            if parts:
                frames.append((firm, parts, low, outer))
                outer = outer * self.rings.laid_out(firm, parts, low)
                low = -1
            pieces = self.rings.pieces[part]
            if not pieces:
                return (frames, outer if place > low else 0)
            firm = self.rings.firm[part]
            if firm and place not in self.rings.ends[pieces[0]]:
                pieces = pieces[::-1]
            part = [piece for piece in pieces if place in self.rings.ends[piece]][0]
            parts = [piece for piece in pieces if piece != part]

    def go_on(self, place, frames):
        """Lay a place."""
        self.places.append(place)
        self.frames = frames


def _bounds_of(sides):
    """The blocks that some sides make: for the numbers of both ends of a block its bounds.

    A side that overlaps no other one is a block without bounds. Sides that overlap, one by one, make a firm block:
    its pieces end at its bounds, the first of which stands ahead of it.
    """
    begun = []
    groups = []
    # Of sides that begin together the wider one comes first.
    for first, last, _ in sorted(sides, key=lambda side: (side[0], -side[1])):
        group = [(first, last)]
        while begun and begun[-1][1] < first:
            groups.append(begun.pop()[0])
        # A side that was begun before overlaps this one if it ends inside.
        while begun and any([first <= end < last for _, end in begun[-1][0]]):
            group = begun.pop()[0] + group
        begun.append((group, max([end for _, end in group])))
    groups.extend([group for group, _ in begun])
    bounds = {}
    for group in groups:
        ahead = [first - 1 for first, _ in group]
        lasts = [last for _, last in group]
        if len(group) > 1:
            bounds[(min(ahead) + 1, max(lasts))] = sorted(set(ahead + lasts))
        else:
            bounds.setdefault((ahead[0] + 1, lasts[0]), [])
    return bounds
