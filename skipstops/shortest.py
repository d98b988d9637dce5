"""The shortest trips through all places of a table, counted and told one by one without making them all.

This goes through all sets of places. A table that has a skip ring does not need it: see `seeking` and `layouts`. So
the tables here have four places or more.
"""

# More bits than the number of the trips through ten places has.
BITS = 24


class ShortestTrips:
    """The shortest plain trips through all places, ascending.

    The places that are still to come are a bit set. `least[rest][place]` tells how long the way from a place through
    such a set back to 0 is at least, `tails[rest]` has the tuples (place, length) of the least lengths of the ways
    that begin with a place of the set.
    """

    def __init__(self, steps):
        """From a table."""
        self.steps = steps
        # The bit of the place 0 is never set: no trip comes to it but at its end.
        self.every = (1 << len(steps)) - 2
        self.least = {0: [row[0] for row in steps]}
        self.tails = {0: []}
        self.kept_ways = {}
        for rest in range(2, self.every + 1, 2):
            self._find_least(rest)

    def least_length(self):
        """How long each of the trips is."""
        return self.least[self.every][0]

    def many(self):
        """How many trips there are."""
        # Each trip is met forwards and backwards.
        return self._many_above(self.every, 0, 0) // 2

    def nth(self, index):
        """The trip with an index, for which there is one."""
        trip = [0]
        rest = self.every
        while rest:
            for place in self._following(rest, trip[-1]):
                # The last place of a plain trip is above its second one.
                low = place if len(trip) == 1 else trip[1]
                many = self._many_above(rest - (1 << place), place, low)
                if index < many:
                    break
                index -= many
            trip.append(place)
            rest -= 1 << place
        return trip

    def _find_least(self, rest):
        """Fill in what is kept for one set; all lesser sets are done."""
        tails = []
        for place in range(1, len(self.steps)):
            if rest >> place & 1:
                tails.append((place, self.least[rest - (1 << place)][place]))
        self.tails[rest] = tails
        self.least[rest] = [
            None if rest >> at & 1 else min([row[place] + tail for place, tail in tails])
            for at, row in enumerate(self.steps if rest < self.every else self.steps[:1])
        ]

    def _following(self, rest, at):
        """The places of a set, ascending, with which a shortest way from a place through the set can go on."""
        row, least = self.steps[at], self.least[rest][at]
        return [place for place, tail in self.tails[rest] if row[place] + tail == least]

    def _many_above(self, rest, at, low):
        """How many shortest ways from a place through a set back to 0 have a last place above `low`."""
        ways = self._ways(rest, at) >> BITS * (low + 1)
        many = 0
        while ways:
            many += ways & (1 << BITS) - 1
            ways = ways >> BITS
        return many

    def _ways(self, rest, at):
        """How many shortest ways from a place through a set back to 0 have each last place.

        All in one number, for the last place 0 its lowest bits: so they are added at once.
        """
        if rest == 0:
            return 1 << BITS * at
        key = (rest, at)
        if key not in self.kept_ways:
            following = self._following(rest, at)
            self.kept_ways[key] = sum([self._ways(rest - (1 << place), place) for place in following])
        return self.kept_ways[key]
