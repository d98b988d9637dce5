"""[25]: live rings that keep skip rings alone, rings up to a length alone, or both."""

import unittest

from skipstops.errors import InvalidChange, InvalidIndex, InvalidNumber, InvalidPlace, InvalidRing, InvalidRow
from skipstops.errors import InvalidTable, LastPlace, NotSkip, NothingToUndo, RingError, TooLarge, TooLong
from skipstops.live import LiveRing, ShortRing, ShortSkipRing, SkipRing
from tests.calls import BARRED, NO_CHANGES, NO_INTEGERS, ROW, SlowLive, WRONG_CALLS, called, drawn_call, live_state
from tests.tools import FIVE, GREATEST, Numbers, RING, SPLIT, exact, skip_pairs, zeros

NO_BOUNDS = NO_INTEGERS + [-1, -10 ** 59]


class Classes(unittest.TestCase):
    def test_subclasses(self):
        self.assertEqual([kind.__bases__ for kind in (SkipRing, ShortRing)], [(LiveRing,)] * 2)
        self.assertTrue(issubclass(ShortSkipRing, SkipRing) and issubclass(ShortSkipRing, ShortRing))

    def test_twins_are_of_the_same_class(self):
        for live in (SkipRing(FIVE, RING), ShortRing(FIVE, RING, 30), ShortSkipRing(FIVE, RING, 30)):
            live.drop(2)
            twin = live.twin()
            self.assertIs(type(twin), type(live))
            self.assertTrue(twin == live)
            self.assertEqual(live_state(twin), live_state(live))
            before = live_state(live)
            twin.drop(0)
            self.assertEqual(live_state(live), before)
            self.assertEqual([twin.undo(), twin.undo(), twin.table, live.undo(), live.table], [True, True, FIVE, True, FIVE])

    def test_the_bound_of_a_twin(self):
        for kind in (ShortRing, ShortSkipRing):
            twin = kind(FIVE, RING, 16).twin()
            self.assertEqual(twin.most, 16)
            self.assertRaises(TooLong, twin.change, 1, 2, 5)
            # A shorter ring does not move the bound.
            twin.change(0, 4, 1)
            self.assertEqual([twin.twin().most, twin.twin().length, twin.twin().undo()], [16, 15, True])


class Made(unittest.TestCase):
    """What is raised when an object is made."""

    def test_skip_rings(self):
        self.assertIs(SkipRing(FIVE, RING).is_skip, True)
        self.assertRaises(NotSkip, SkipRing, FIVE, BARRED)
        self.assertRaises(NotSkip, SkipRing, SPLIT, RING)
        self.assertRaises(InvalidRing, SkipRing, FIVE, [0, 2, 1, 3])
        self.assertRaises(InvalidTable, SkipRing, [[1]], BARRED)

    def test_bounds(self):
        self.assertEqual([ShortRing(FIVE, RING, 16).most, ShortRing(FIVE, BARRED, 20).is_skip], [16, False])
        self.assertEqual([ShortRing([[0]], [0], 0).length, ShortRing(FIVE, RING, 10 ** 59).most], [0, 10 ** 59])
        for kind in (ShortRing, ShortSkipRing):
            for most in (15, 0):
                with self.assertRaises(TooLong) as caught:
                    kind(FIVE, RING, most)
                self.assertEqual(exact(caught.exception.size), ("int", 16))
        with self.assertRaises(TooLong) as caught:
            ShortRing(FIVE, BARRED, 19)
        self.assertEqual(caught.exception.size, 20)
        great = [[0 if one == other else GREATEST for other in range(30)] for one in range(30)]
        with self.assertRaises(TooLong) as caught:
            ShortSkipRing(great, list(range(30)), 30 * GREATEST - 1)
        self.assertEqual(caught.exception.size, 30 * GREATEST)
        self.assertEqual(ShortSkipRing(great, list(range(30)), 30 * GREATEST).length, 30 * GREATEST)

    def test_wrong_bounds(self):
        for kind in (ShortRing, ShortSkipRing):
            for most in NO_BOUNDS:
                with self.subTest(kind.__name__, most=most):
                    self.assertRaises(InvalidNumber, kind, FIVE, RING, most)
                    # Ahead of what the ring itself is not.
                    self.assertRaises(InvalidNumber, kind, FIVE, BARRED, most)
                    self.assertRaises(InvalidRing, kind, FIVE, [0, 2, 1, 3], most)
                    self.assertRaises(InvalidTable, kind, [[1]], None, most)

    def test_not_skip_comes_ahead_of_too_long(self):
        self.assertRaises(NotSkip, ShortSkipRing, FIVE, BARRED, 0)
        self.assertRaises(NotSkip, ShortSkipRing, FIVE, BARRED, 20)
        self.assertRaises(NotSkip, ShortSkipRing, FIVE, BARRED, 19)
        self.assertRaises(TooLong, ShortSkipRing, FIVE, RING, 15)
        self.assertEqual(ShortSkipRing(FIVE, RING, 16).described(), ["places 5", "length 16", "skip", "most 16"])

    def test_by_name(self):
        self.assertTrue(SkipRing(ring=RING, table=FIVE) == SkipRing(FIVE, RING))
        for kind in (ShortRing, ShortSkipRing):
            self.assertTrue(kind(most=17, ring=RING, table=FIVE) == kind(FIVE, RING, 17))


class Kept(unittest.TestCase):
    """Which calls are made, held against a list of tables and rings."""

    def wanted_error(self, kind, slow, most):
        """The class of the error, and its size, for what a slow one has come to; None if it is kept."""
        if kind in (SkipRing, ShortSkipRing) and not slow.skips():
            return (NotSkip, None)
        if kind in (ShortRing, ShortSkipRing) and slow.length() > most:
            return (TooLong, slow.length())
        return None

    def raised(self, function, *arguments):
        """The class of the error that a call raises, and its size; None if it raises none."""
        try:
            function(*arguments)
        except RingError as error:
            return (type(error), getattr(error, "size", None))
        return None

    def check_call(self, live, slow, call, most):
        """One call, tried and made, against the slow one; tell what it raised."""
        name, arguments = call
        before = live_state(live)
        skips = slow.call(name, arguments)
        error = self.wanted_error(type(live), slow, most)
        self.assertEqual(self.raised(live.tried, (name, *arguments)), error)
        self.assertEqual(live_state(live), before)
        if error is None:
            self.assertIs(called(live, name, arguments), skips)
            return None
        slow.undo()
        self.assertEqual(self.raised(called, live, name, arguments), error)
        self.assertEqual(live_state(live), before)
        self.assertEqual(self.raised(live.tried, (name, *arguments), None), error)
        return error[0]

    def test_by_words(self):
        numbers = Numbers(401)
        counts = {}
        for kind in (SkipRing, ShortRing, ShortSkipRing):
            for table, ring in skip_pairs(402, (1, 3, 4, 5, 6), 6):
                slow = SlowLive(table, ring)
                most = slow.length() + numbers.below(12)
                live = kind(table, ring) if kind is SkipRing else kind(table, ring, most)
                for _ in range(12):
                    if slow.log and numbers.below(5) == 0:
                        self.assertIs(live.undo(), slow.undo())
                    elif len(live) < 8:
                        told = self.check_call(live, slow, drawn_call(numbers, *slow.stands[-1], 6), most)
                        counts[kind, told] = counts.get((kind, told), 0) + 1
                    self.check_state(live, slow, most)
                while slow.log:
                    self.assertIs(live.undo(), slow.undo())
                    self.check_state(live, slow, most)
                self.assertRaises(NothingToUndo, live.undo)
        wanted = [(SkipRing, NotSkip), (ShortRing, TooLong), (ShortSkipRing, NotSkip), (ShortSkipRing, TooLong),
                  (SkipRing, None), (ShortRing, None), (ShortSkipRing, None)]
        self.assertEqual(set(counts), set(wanted))
        self.assertGreater(min(counts.values()), 10)

    def check_state(self, live, slow, most):
        kind, wanted = slow.state()
        if not isinstance(live, SkipRing) or isinstance(live, ShortRing):
            wanted = wanted[:-1] + [exact([one for _, one in wanted[-1][1]] + [f"most {most}"])]
        self.assertEqual(live_state(live), (kind, wanted))

    def test_a_bound_that_is_just_kept(self):
        for kind in (ShortRing, ShortSkipRing):
            live = kind(FIVE, RING, 20)
            self.assertEqual([live.change(2, 3, 7), live.length], [True, 20])
            self.assertEqual(self.raised(live.change, 1, 2, 5), (TooLong, 21))
            self.assertEqual([live.length, live.log, live.undo(), live.length], [20, ["change"], True, 16])
        self.assertEqual(self.raised(ShortRing(FIVE, RING, 20).turn, BARRED), None)
        self.assertEqual(self.raised(ShortRing(FIVE, RING, 19).turn, BARRED), (TooLong, 20))
        self.assertEqual(self.raised(ShortRing(FIVE, RING, 19).add, [9] * 5, 0), (TooLong, 31))
        # A place less may make a ring longer, where it was a short cut.
        cut = [[0, 1, 9], [1, 0, 1], [9, 1, 0]]
        self.assertEqual(self.raised(ShortRing(cut, [0, 1, 2], 17).drop, 1), (TooLong, 18))
        self.assertEqual(self.raised(ShortRing(cut, [0, 1, 2], 18).drop, 1), None)

    def test_not_skip_comes_ahead_of_too_long(self):
        live = ShortSkipRing(FIVE, RING, 16)
        self.assertEqual(self.raised(live.turn, BARRED), (NotSkip, None))
        self.assertEqual(self.raised(live.change, 2, 3, 8), (NotSkip, None))
        self.assertEqual(self.raised(live.change, 2, 3, 7), (TooLong, 20))
        self.assertEqual([live.log, live.table, live.ring], [[], FIVE, RING])

    def test_they_come_behind_all_others(self):
        for live in (SkipRing(FIVE, RING), ShortRing(FIVE, RING, 16), ShortSkipRing(FIVE, RING, 16)):
            before = live_state(live)
            for name, arguments, error in WRONG_CALLS:
                self.assertEqual(self.raised(called, live, name, arguments), (error, None))
            for value in NO_CHANGES:
                self.assertEqual(self.raised(live.tried, value), (InvalidChange, None))
            self.assertEqual(self.raised(live.tried, ("add", [10] * 5, 5)), (InvalidIndex, None))
            self.assertEqual(self.raised(live.undo), (NothingToUndo, None))
            self.assertEqual(live_state(live), before)
        small = ShortSkipRing([[0]], [0], 0)
        self.assertRaises(LastPlace, small.drop, 0)
        self.assertRaises(InvalidPlace, small.drop, 1)
        self.assertEqual(self.raised(small.add, [3], 0), (TooLong, 6))
        great = ShortSkipRing(zeros(30), list(range(30)), 0)
        self.assertRaises(TooLarge, great.add, [5] * 30, 0)
        self.assertRaises(InvalidIndex, great.add, [5] * 30, 30)
        self.assertRaises(InvalidRow, great.add, [5] * 29, 30)

    def test_tried_ones_that_are_not_kept(self):
        live = SkipRing(FIVE, RING)
        live.add(ROW, 4)
        before = live_state(live)
        # The ring in between must be kept, too.
        self.assertRaises(NotSkip, live.tried, ("turn", [0, 2, 1, 3, 4, 5]), ("turn", [0, 1, 2, 3, 4, 5]))
        self.assertEqual(live.tried(("drop", 5), ("drop", 4)), [True, True])
        self.assertRaises(InvalidPlace, live.tried, ("drop", 5), ("drop", 5), ("turn", [0, 2, 1, 3, 4]))
        self.assertEqual(live_state(live), before)
        short = ShortRing(FIVE, RING, 18)
        with self.assertRaises(TooLong) as caught:
            short.tried(("change", 0, 1, 5), ("change", 0, 1, 6), None)
        self.assertEqual([caught.exception.size, short.table, short.log], [19, FIVE, []])

    def test_undo_raises_none_of_them(self):
        live = ShortSkipRing(FIVE, RING, 16)
        live.change(0, 4, 1)
        live.change(0, 1, 2)
        self.assertEqual([live.undo(), live.undo(), live.length], [True, True, 16])


class Described(unittest.TestCase):
    def test_described(self):
        self.assertEqual(exact(SkipRing(FIVE, RING).described()), exact(["places 5", "length 16", "skip"]))
        self.assertEqual(exact(LiveRing(FIVE, BARRED).described()), exact(["places 5", "length 20", "bar"]))
        self.assertEqual(exact(ShortRing(FIVE, BARRED, 20).described()),
                         exact(["places 5", "length 20", "bar", "most 20"]))
        self.assertEqual(exact(ShortSkipRing([[0]], [0], 0).described()), exact(["places 1", "length 0", "skip", "most 0"]))

    def test_the_bound(self):
        for kind in (ShortRing, ShortSkipRing):
            self.assertEqual(exact(kind(FIVE, RING, 77).most), ("int", 77))
        for kind in (LiveRing, SkipRing):
            self.assertFalse(hasattr(kind(FIVE, RING), "most"))

    def test_all_names_are_there_at_once(self):
        for live in (LiveRing(FIVE, RING), SkipRing(FIVE, RING), ShortRing(FIVE, RING, 16), ShortSkipRing(FIVE, RING, 16)):
            self.assertEqual(exact([live.table, live.ring, live.is_skip, live.length, live.log, len(live)]),
                             exact([FIVE, RING, True, 16, [], 5]))


if __name__ == "__main__":
    unittest.main()
