"""The shortest trips through some stops, counted and told one by one without making them all."""


class ShortestTrips:
    """The shortest plain trips through some stops, ascending.

    Inside, the stops are numbered from 0 in ascending sequence, and each trip begins with the number 0. The
    numbers that are still to come are a bit set. `least` tells for such a set and a number how long the way
    from the number through the set back to 0 is at least, `follows` which numbers of the set can come first
    on so short a way.
    """

    def __init__(self, table, stops):
        self.stops = sorted(stops)
        self.steps = [[table[one][other] for other in self.stops] for one in self.stops]
        # The bit of the number 0 is never set: no trip comes to it but at its end.
        self.every = (1 << len(stops)) - 2
        self.least = {}
        self.follows = {}
        self.kept_ways = {}
        for rest in range(0, self.every + 1, 2):
            self._find_least(rest)

    def least_length(self):
        """How long each of the trips is."""
        return self.least[(self.every, 0)]

    def many(self):
        """How many trips there are."""
        ways = self._ways(-1)[(self.every, 0)]
        # From three stops on each trip is met forwards and backwards.
        return ways if len(self.stops) < 3 else ways // 2

    def nth(self, index):
        """The trip with an index, for which there is one."""
        begun = [0]
        while len(begun) < len(self.stops):
            numbers = self._going_on(begun)
            at = 0
            many = self._many_begun(begun + [numbers[at]])
            while index >= many:
                index -= many
                at += 1
                many = self._many_begun(begun + [numbers[at]])
            begun.append(numbers[at])
        return [self.stops[number] for number in begun]

    def index_of(self, trip):
        """The index of one of the trips."""
        numbers = [self.stops.index(place) for place in trip]
        index = 0
        for size in range(1, len(numbers)):
            begun = numbers[:size]
            lesser = [number for number in self._going_on(begun) if number < numbers[size]]
            index += sum([self._many_begun(begun + [number]) for number in lesser])
        return index

    def many_beside(self, one, other):
        """On how many of the trips two numbers, the lesser one first, stand side by side."""
        ways = self._ways(-1)
        others = self._left([one, other])
        wanted = self.least_length() - self.steps[one][other]
        many = 0
        for ahead in range(0, others + 1, 2):
            # A way back from a number to 0 is, read backwards, a way from 0 to it; to 0 itself nothing is ahead.
            if ahead & others == ahead and (one > 0 or ahead == 0):
                behind = others - ahead
                if self.least[(ahead, one)] + self.least[(behind, other)] == wanted:
                    many += ways[(ahead, one)] * ways[(behind, other)]
        return many

    def _find_least(self, rest):
        """Fill in what is kept for one set; all lesser sets are done."""
        numbers = [number for number in range(len(self.stops)) if rest >> number & 1]
        for at in range(len(self.stops)):
            if at not in numbers:
                tails = [self.steps[at][first] + self.least[(rest - (1 << first), first)] for first in numbers]
                least = min(tails) if tails else self.steps[at][0]
                self.least[(rest, at)] = least
                self.follows[(rest, at)] = [first for first, tail in zip(numbers, tails) if tail == least]

    def _ways(self, low):
        """For each set and number how many of the least ways back to 0 have a last stop above `low`."""
        if low not in self.kept_ways:
            ways = {}
            for (rest, at), numbers in self.follows.items():
                if rest == 0:
                    ways[(rest, at)] = 1 if at > low else 0
                else:
                    ways[(rest, at)] = sum([ways[(rest - (1 << first), first)] for first in numbers])
            self.kept_ways[low] = ways
        return self.kept_ways[low]

    def _left(self, begun):
        """The set of the numbers other than 0 that are not yet on a trip."""
        rest = self.every
        for number in begun:
            if number > 0:
                rest -= 1 << number
        return rest

    def _going_on(self, begun):
        """The numbers with which a begun trip can go on."""
        return self.follows[(self._left(begun), begun[-1])]

    def _many_begun(self, begun):
        """How many of the trips begin with two or more numbers, with which some shortest way begins."""
        # A plain trip of three or more stops has its second stop below its last one.
        low = begun[1] if len(self.stops) > 2 else -1
        return self._ways(low)[(self._left(begun), begun[-1])]
