"""Live rings: a table and a ring of its places that are changed by calls, which can be taken back."""

from skipstops.checks import check_distance, check_length, check_not_last, check_place, check_ring, check_row
from skipstops.checks import check_size, check_spot, check_table, check_two_places
from skipstops.cutting import goes_skip
from skipstops.errors import InvalidChange, NothingToUndo, NotSkip, TooLong
from skipstops.kinds import MOST_PLACES
from skipstops.resizing import ring_without_place, with_place, without_place
from skipstops.trips import plain_trip, round_length

# For each call that can be tried how many items its tuple has.
CALL_SIZES = {"change": 4, "add": 3, "drop": 2, "turn": 2}


class Moment:
    """What a live ring keeps behind the call of a name: no moment is changed once it is made."""

    def __init__(self, call, rows, places):
        self.call = call
        self.rows = rows
        self.places = places
        self.skips = goes_skip(rows, places)
        self.size = round_length(rows, places)


class LiveRing:
    """A table and a ring of its places, as they are now, and the calls that can be taken back."""

    def __init__(self, table, ring):
        check_table(table)
        check_ring(ring, len(table))
        # The first moment is that of no call; the last one is now.
        self._moments = [Moment(None, [list(row) for row in table], list(ring))]
        self._most = None

    @property
    def table(self):
        """The table as it is now."""
        return [list(row) for row in self._moments[-1].rows]

    @property
    def ring(self):
        """The ring as it is now."""
        return list(self._moments[-1].places)

    @property
    def is_skip(self):
        """Whether the ring is a skip ring."""
        return self._moments[-1].skips

    @property
    def length(self):
        """The length of the trip round the ring through all places."""
        return self._moments[-1].size

    @property
    def log(self):
        """The list of the names of the calls that are not taken back."""
        return [moment.call for moment in self._moments[1:]]

    def __len__(self):
        return len(self._moments[-1].places)

    def __eq__(self, other):
        return type(self) is type(other) and self._told() == other._told()

    def change(self, one, other, distance):
        """Two places get another distance."""
        check_two_places(one, other, len(self))
        check_distance(distance)
        table = self.table
        table[one][other] = table[other][one] = distance
        return self._go_on("change", table, self.ring)

    def add(self, row, index):
        """The next number stands behind the item of the ring with the index, with the distances of the row."""
        check_row(row, len(self))
        check_spot(index, len(self))
        check_size(len(self) + 1, MOST_PLACES)
        ring = self.ring
        ring.insert(index + 1, len(ring))
        return self._go_on("add", with_place(self.table, row), ring)

    def drop(self, place):
        """A place is taken away, each greater number being one less then."""
        check_place(place, len(self))
        check_not_last(len(self))
        return self._go_on("drop", without_place(self.table, place), ring_without_place(self.ring, place))

    def turn(self, ring):
        """The same places stand in another ring."""
        check_ring(ring, len(self))
        return self._go_on("turn", self.table, list(ring))

    def undo(self):
        """Take back the latest call that is not taken back."""
        if len(self._moments) == 1:
            raise NothingToUndo("no call is left to take back")
        self._moments = self._moments[:-1]
        return self.is_skip

    def tried(self, *changes):
        """What some calls, told by tuples, would return one after the other."""
        moments = self._moments
        try:
            return [self._made(change) for change in changes]
        finally:
            self._moments = moments

    def described(self):
        """The list of lines that tell of the ring."""
        return [f"places {len(self)}", f"length {self.length}", "skip" if self.is_skip else "bar"]

    def twin(self):
        """An independent object that is the same in everything."""
        return self._lent_to(LiveRing(self.table, self.ring))

    def _go_on(self, call, table, ring):
        """Keep what a call makes, if the object keeps such rings, and return whether it is a skip ring."""
        moment = Moment(call, table, ring)
        self._check_kept(moment)
        # A new list, so that a twin, and who takes all back, can keep the one there was.
        self._moments = self._moments + [moment]
        return moment.skips

    def _check_kept(self, moment):
        """The errors of what an object does not keep: a live ring keeps all rings."""

    def _made(self, change):
        """What the call returns that a tuple tells; InvalidChange for any other value."""
        if type(change) is not tuple or not change or not isinstance(change[0], str):
            raise InvalidChange("a change must be a tuple that begins with the name of a call")
        if CALL_SIZES.get(change[0]) != len(change):
            raise InvalidChange("a change must be a call that changes the ring, with all of its arguments")
        name, *arguments = change
        if name == "change":
            return self.change(*arguments)
        if name == "add":
            return self.add(*arguments)
        if name == "drop":
            return self.drop(*arguments)
        return self.turn(*arguments)

    def _lent_to(self, other):
        """Another object that is as this one is now, with the same calls to take back."""
        other._moments = self._moments
        return other

    def _told(self):
        """What is equal for equal objects of one class."""
        now = self._moments[-1]
        return (now.rows, plain_trip(now.places), self._most)


class SkipRing(LiveRing):
    """A live ring that keeps skip rings alone."""

    def __init__(self, table, ring):
        LiveRing.__init__(self, table, ring)
        self._check_kept(self._moments[-1])

    def twin(self):
        """An independent object that is the same in everything."""
        return self._lent_to(SkipRing(self.table, self.ring))

    def _check_kept(self, moment):
        """NotSkip unless it is a skip ring."""
        if not moment.skips:
            raise NotSkip("the ring would not be a skip ring of the table")
        super()._check_kept(moment)


class ShortRing(LiveRing):
    """A live ring that keeps rings up to some length alone."""

    def __init__(self, table, ring, most):
        LiveRing.__init__(self, table, ring)
        check_length(most)
        self._most = most
        self._check_kept(self._moments[-1])

    @property
    def most(self):
        """The greatest length."""
        return self._most

    def described(self):
        """The list of lines that tell of the ring, and of its bound."""
        return super().described() + [f"most {self._most}"]

    def twin(self):
        """An independent object that is the same in everything."""
        return self._lent_to(ShortRing(self.table, self.ring, self._most))

    def _check_kept(self, moment):
        """TooLong unless its length is within the bound."""
        if moment.size > self._most:
            raise TooLong(moment.size)
        super()._check_kept(moment)


class ShortSkipRing(SkipRing, ShortRing):
    """A live ring that keeps skip rings up to some length alone."""

    def __init__(self, table, ring, most):
        ShortRing.__init__(self, table, ring, most)

    @property
    def most(self):
        """The greatest length."""
        return self._most

    def described(self):
        """The list of lines that tell of the ring, and of its bound."""
        return super().described()

    def twin(self):
        """An independent object that is the same in everything."""
        return self._lent_to(ShortSkipRing(self.table, self.ring, self._most))
