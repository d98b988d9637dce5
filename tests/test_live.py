"""[24]: live rings, held against a list of tables and rings, call by call."""

import unittest
from itertools import combinations

from skipstops.amounts import is_skip
from skipstops.changes import grown, ring_without, shrunk
from skipstops.errors import InvalidChange, InvalidIndex, InvalidNumber, InvalidPlace, InvalidRing, InvalidRow
from skipstops.errors import InvalidTable, LastPlace, NothingToUndo, RingError, TooLarge
from skipstops.live import LiveRing, ShortRing, ShortSkipRing, SkipRing
from skipstops.rings import trip_length
from tests.calls import BARRED, NO_CHANGES, NO_RINGS, ROW, SlowLive, WRONG_CALLS, called, drawn_call, live_state
from tests.tools import FIVE, GREATEST, Numbers, RING, SPLIT, bars_by_words, closed_length, drawn_tables, exact, lists_in
from tests.tools import skip_pairs, zeros


class Calls(unittest.TestCase):
    def test_by_words(self):
        numbers = Numbers(301)
        skips = {True: 0, False: 0}
        pairs = [(table, numbers.mixed(range(len(table)))) for table in drawn_tables(302, (1, 2, 3, 4, 5), 2)]
        for table, ring in pairs + skip_pairs(303, (3, 5, 6), 4):
            live, slow = LiveRing(table, ring), SlowLive(table, ring)
            self.assertEqual(live_state(live), slow.state())
            for _ in range(14):
                if slow.log and numbers.below(4) == 0:
                    self.assertIs(live.undo(), slow.undo())
                elif len(slow.stands[-1][1]) < 8:
                    name, arguments = drawn_call(numbers, *slow.stands[-1], 9)
                    wanted = slow.call(name, arguments)
                    self.assertIs(called(live, name, arguments), wanted)
                    skips[wanted] += 1
                self.assertEqual(live_state(live), slow.state())
            for _ in list(slow.log):
                self.assertIs(live.undo(), slow.undo())
                self.assertEqual(live_state(live), slow.state())
            self.assertRaises(NothingToUndo, live.undo)
        self.assertGreater(min(skips.values()), 60)

    def test_as_the_functions(self):
        numbers = Numbers(304)
        live = LiveRing(SPLIT, RING)
        for _ in range(60):
            table, ring = live.table, live.ring
            name, arguments = drawn_call(numbers, table, ring, 9)
            told = called(live, name, arguments)
            if name == "add":
                table = grown(table, arguments[0])
                self.assertEqual(live.ring.index(len(ring)), arguments[1] + 1)
            if name == "drop":
                table, ring = shrunk(table, arguments[0]), ring_without(ring, arguments[0])
                self.assertEqual(live.ring, ring)
            if name in ("add", "drop", "turn"):
                self.assertEqual(live.table, table)
            if name in ("change", "turn"):
                self.assertEqual(live.ring, arguments[0] if name == "turn" else ring)
            self.assertIs(told, is_skip(live.table, live.ring))
            self.assertEqual([live.is_skip, live.length], [told, trip_length(live.table, live.ring)])

    def test_change(self):
        live = LiveRing(FIVE, RING)
        for one, other in combinations(range(5), 2):
            self.assertEqual(live.change(other, one, 77), not bars_by_words(live.table, RING))
            wanted = [row[:] for row in FIVE]
            wanted[one][other] = wanted[other][one] = 77
            self.assertEqual(live.table, wanted)
            self.assertIs(live.undo(), True)
            self.assertEqual(live.table, FIVE)
        self.assertEqual([live.change(0, 1, GREATEST), live.length], [False, 13 + GREATEST])
        self.assertEqual([live.change(0, 1, 0), live.length], [True, 13])
        self.assertEqual([live.change(0, 1, 3), live.length, live.log], [True, 16, ["change"] * 3])

    def test_add_behind_each_item(self):
        for at, ring in enumerate([[0, 5, 1, 2, 3, 4], [0, 1, 5, 2, 3, 4], [0, 1, 2, 5, 3, 4], [0, 1, 2, 3, 5, 4],
                                   [0, 1, 2, 3, 4, 5]]):
            live = LiveRing(FIVE, RING)
            self.assertIs(live.add(ROW, at), at in (0, 3, 4))
            self.assertEqual([live.ring, len(live), live.log], [ring, 6, ["add"]])
            self.assertEqual([row[-1] for row in live.table], ROW + [0])
            self.assertEqual([live.table[-1], [row[:-1] for row in live.table[:-1]]], [ROW + [0], FIVE])
        live = LiveRing(FIVE, [3, 1, 4, 0, 2])
        live.add(ROW, 1)
        self.assertEqual(live.ring, [3, 1, 5, 4, 0, 2])

    def test_drop_each_place(self):
        for place in range(5):
            live = LiveRing(FIVE, [3, 1, 4, 0, 2])
            live.drop(place)
            kept = [one for one in range(5) if one != place]
            self.assertEqual(live.table, [[FIVE[one][other] for other in kept] for one in kept])
            self.assertEqual(live.ring, [kept.index(one) for one in [3, 1, 4, 0, 2] if one != place])

    def test_down_to_the_last_place_and_up_to_thirty(self):
        live = LiveRing(FIVE, RING)
        for many in (4, 3, 2, 1):
            self.assertIs(live.drop(0), not bars_by_words(live.table, live.ring))
            self.assertEqual([len(live), live.length], [many, closed_length(live.table, live.ring)])
        self.assertEqual([live.table, live.ring, live.is_skip, live.length], [[[0]], [0], True, 0])
        before = live_state(live)
        self.assertRaises(LastPlace, live.drop, 0)
        self.assertRaises(InvalidPlace, live.drop, 1)
        self.assertRaises(InvalidPlace, live.change, 0, 0, 5)
        self.assertRaises(InvalidPlace, live.change, 0, 1, 5)
        self.assertEqual(live_state(live), before)
        for many in range(1, 30):
            self.assertIs(live.add([0] * many, many // 2), True)
        self.assertEqual([len(live), live.table, live.length], [30, zeros(30), 0])
        before = live_state(live)
        self.check_too_large(live)
        self.assertEqual(live_state(live), before)
        self.assertEqual([live.drop(29), live.add([3] * 29, 28), len(live)], [True, True, 30])
        for name in reversed(["drop"] * 4 + ["add"] * 29 + ["drop", "add"]):
            self.assertEqual(live.log[-1], name)
            live.undo()
        self.assertEqual([live.table, live.ring, live.log], [FIVE, RING, []])

    def check_too_large(self, live):
        """A live ring of thirty places takes no more."""
        with self.assertRaises(TooLarge) as caught:
            live.add([0] * 30, 29)
        self.assertEqual(caught.exception.limit, 30)
        self.assertRaises(InvalidRow, live.add, [0] * 29, 0)
        self.assertRaises(InvalidRow, live.add, [0] * 31, 0)
        for index in (30, -1, True, None, 10 ** 59):
            self.assertRaises(InvalidIndex, live.add, [0] * 30, index)

    def test_turn(self):
        live = LiveRing(FIVE, RING)
        self.assertEqual([live.turn(BARRED), live.ring, live.length, live.is_skip], [False, BARRED, 20, False])
        # The ring stays as it was passed, also if it is alike with the one before.
        self.assertEqual([live.turn([2, 1, 0, 4, 3]), live.ring], [True, [2, 1, 0, 4, 3]])
        self.assertEqual([live.turn([2, 1, 0, 4, 3]), live.log], [True, ["turn"] * 3])
        self.assertEqual([live.undo(), live.undo(), live.ring], [True, False, BARRED])

    def test_a_hundred_calls(self):
        live, slow = LiveRing(zeros(4), [0, 1, 2, 3]), SlowLive(zeros(4), [0, 1, 2, 3])
        numbers = Numbers(305)
        for _ in range(100):
            name, arguments = drawn_call(numbers, *slow.stands[-1], 4)
            if name == "add" and len(live) > 5:
                name, arguments = "drop", [0]
            called(live, name, arguments)
            slow.call(name, arguments)
        self.assertEqual(live_state(live), slow.state())
        for _ in range(100):
            self.assertIs(live.undo(), slow.undo())
            self.assertEqual(live.table, slow.stands[-1][0])
        self.assertEqual(live_state(live), slow.state())

    def test_thirty_places(self):
        great = [[0 if one == other else GREATEST for other in range(30)] for one in range(30)]
        live = LiveRing(great, list(range(30)))
        self.assertEqual([live.length, live.is_skip, len(live)], [30 * GREATEST, True, 30])
        self.assertEqual([live.change(0, 15, GREATEST - 1), live.is_skip, live.length], [False, False, 30 * GREATEST])
        self.assertEqual([live.drop(15), live.length], [True, 29 * GREATEST])
        self.assertEqual(live.described(), ["places 29", f"length {29 * GREATEST}", "skip"])

    def test_by_name(self):
        live = LiveRing(ring=RING, table=FIVE)
        self.assertEqual([live.change(distance=8, other=3, one=2), live.add(index=4, row=ROW)], [False, False])
        self.assertEqual([live.drop(place=5), live.turn(ring=BARRED), live.log], [False, False, ["change", "add", "drop", "turn"]])


class Errors(unittest.TestCase):
    def test_wrong_tables_and_rings(self):
        for kind in (LiveRing, SkipRing):
            for table in (None, [], [[1]], [[0, 1], [2, 0]], [[0, True], [True, 0]], tuple(FIVE), zeros(31)):
                self.assertRaises(InvalidTable, kind, table, RING)
                self.assertRaises(InvalidTable, kind, table, None)
            for ring in NO_RINGS:
                self.assertRaises(InvalidRing, kind, FIVE, ring)

    def test_wrong_calls(self):
        live = LiveRing(FIVE, RING)
        live.turn(BARRED)
        before = live_state(live)
        for name, arguments, error in WRONG_CALLS:
            with self.subTest(name, arguments=arguments):
                with self.assertRaises(RingError) as caught:
                    called(live, name, arguments)
                self.assertIs(type(caught.exception), error)
                with self.assertRaises(RingError) as caught:
                    live.tried((name, *arguments))
                self.assertIs(type(caught.exception), error)
                self.assertEqual(live_state(live), before)
        self.assertEqual([live.undo(), live.ring], [True, RING])

    def test_nothing_to_undo(self):
        live = LiveRing(FIVE, RING)
        before = live_state(live)
        self.assertRaises(NothingToUndo, live.undo)
        self.assertEqual(live_state(live), before)
        live.drop(0)
        self.assertIs(live.undo(), True)
        self.assertRaises(NothingToUndo, live.undo)
        self.assertEqual(live_state(live), before)

    def test_calls_that_raise_are_not_kept(self):
        live = LiveRing(FIVE, RING)
        live.change(2, 3, 8)
        self.assertRaises(InvalidNumber, live.change, 2, 3, -8)
        self.assertRaises(InvalidRow, live.add, [1], 0)
        self.assertEqual([live.log, live.undo(), live.log, live.table], [["change"], True, [], FIVE])


class Tried(unittest.TestCase):
    def test_by_words(self):
        numbers = Numbers(306)
        for table, ring in skip_pairs(307, (1, 2, 4, 5), 2):
            live, slow = LiveRing(table, ring), SlowLive(table, ring)
            for _ in range(3):
                name, arguments = drawn_call(numbers, *slow.stands[-1], 9)
                called(live, name, arguments)
                slow.call(name, arguments)
            before = live_state(live)
            changes, wanted = [], []
            for _ in range(4):
                name, arguments = drawn_call(numbers, *slow.stands[-1], 9)
                changes.append((name, *arguments))
                wanted.append(slow.call(name, arguments))
                self.assertEqual(exact(live.tried(*changes)), exact(wanted))
                self.assertEqual(live_state(live), before)
            for _ in changes:
                slow.undo()
            while slow.log:
                self.assertIs(live.undo(), slow.undo())
                self.assertEqual(live_state(live), slow.state())

    def test_no_change(self):
        live = LiveRing(FIVE, RING)
        before = live_state(live)
        self.assertEqual(live.tried(), [])
        self.assertEqual(live_state(live), before)

    def test_all_four(self):
        live = LiveRing(FIVE, RING)
        told = live.tried(("add", ROW, 4), ("turn", [0, 2, 1, 3, 4, 5]), ("drop", 5), ("change", 2, 3, 8), ("turn", RING))
        self.assertEqual(exact(told), exact([True, False, False, False, False]))
        self.assertEqual([live.log, live.table, live.ring, len(live)], [[], FIVE, RING, 5])

    def test_any_other_value(self):
        live = LiveRing(FIVE, RING)
        live.turn(BARRED)
        before = live_state(live)
        for value in NO_CHANGES:
            with self.subTest(value=value):
                self.assertRaises(InvalidChange, live.tried, value)
                self.assertRaises(InvalidChange, live.tried, ("drop", 0), ("turn", [0, 1, 2, 3]), value, None)
                # What is tried ahead of it raises its own error, what is behind it does not.
                self.assertRaises(InvalidPlace, live.tried, ("drop", 7), value)
                self.assertRaises(InvalidChange, live.tried, value, ("drop", 7))
                self.assertEqual(live_state(live), before)

    def test_one_that_raises_in_the_middle(self):
        live = LiveRing(FIVE, RING)
        live.change(0, 1, 4)
        before = live_state(live)
        down = [("drop", 0)] * 4
        self.assertRaises(LastPlace, live.tried, *down, ("drop", 0), ("add", [1], 0))
        self.assertRaises(InvalidIndex, live.tried, ("add", ROW, 0), ("add", ROW + [0], 6))
        # The places are those behind the changes before.
        self.assertRaises(InvalidPlace, live.tried, ("drop", 0), ("drop", 4))
        self.assertRaises(InvalidRow, live.tried, ("add", ROW, 0), ("add", ROW, 0))
        self.assertRaises(InvalidRing, live.tried, ("drop", 0), ("turn", RING))
        self.assertEqual(live.tried(*down, ("add", [1], 0)), [True] * 5)
        self.assertEqual(live_state(live), before)
        great = LiveRing(zeros(29), list(range(29)))
        with self.assertRaises(TooLarge) as caught:
            great.tried(("add", [0] * 29, 3), ("add", [0] * 30, 3))
        self.assertEqual([caught.exception.limit, len(great), great.log], [30, 29, []])

    def test_what_is_tried_is_no_call_to_take_back(self):
        live = LiveRing(FIVE, RING)
        live.tried(("drop", 0))
        self.assertRaises(NothingToUndo, live.undo)
        live.drop(1)
        live.tried(("drop", 0), ("turn", [2, 1, 0]))
        self.assertEqual([live.log, live.undo(), live.table], [["drop"], True, FIVE])


class Twins(unittest.TestCase):
    def test_changed_apart(self):
        live = LiveRing(FIVE, RING)
        live.turn(BARRED)
        live.drop(4)
        twin = live.twin()
        self.assertIs(type(twin), LiveRing)
        self.assertIsNot(twin, live)
        self.assertEqual(live_state(twin), live_state(live))
        self.assertTrue(twin == live)
        before = live_state(live)
        twin.add([1, 2, 3, 4], 0)
        twin.change(0, 1, 50)
        self.assertEqual(live_state(live), before)
        self.assertEqual([live.log, twin.log], [["turn", "drop"], ["turn", "drop", "add", "change"]])
        self.assertFalse(twin == live)
        live.undo()
        self.assertEqual([live.ring, live.log, live.table], [BARRED, ["turn"], FIVE])
        self.assertEqual([twin.undo(), twin.undo(), twin.undo(), twin.ring], [False, False, False, BARRED])
        self.assertTrue(twin == live)
        self.assertEqual([twin.undo(), twin.log, live.log], [True, [], ["turn"]])
        self.assertRaises(NothingToUndo, twin.undo)
        self.assertEqual([live.undo(), live.table], [True, FIVE])

    def test_a_twin_of_a_twin(self):
        live = LiveRing([[0]], [0])
        live.add([7], 0)
        twin = live.twin().twin()
        live.undo()
        self.assertEqual([twin.table, twin.undo(), twin.table, len(live)], [[[0, 7], [7, 0]], True, [[0]], 1])


class Equality(unittest.TestCase):
    def test_alike_rings(self):
        live = LiveRing(FIVE, RING)
        for ring in (RING, [2, 3, 4, 0, 1], [4, 3, 2, 1, 0], [1, 0, 4, 3, 2]):
            self.assertTrue(live == LiveRing(FIVE, ring))
            self.assertFalse(live != LiveRing(FIVE, ring))
        for ring in (BARRED, [0, 3, 2, 1, 4]):
            self.assertFalse(live == LiveRing(FIVE, ring))
            self.assertTrue(live != LiveRing(FIVE, ring))

    def test_tables(self):
        self.assertFalse(LiveRing(FIVE, RING) == LiveRing(SPLIT, RING))
        self.assertFalse(LiveRing(zeros(4), [0, 1, 2, 3]) == LiveRing(zeros(5), RING))
        self.assertFalse(LiveRing([[0]], [0]) == LiveRing(zeros(2), [0, 1]))
        self.assertTrue(LiveRing(zeros(2), [1, 0]) == LiveRing([[0] * 2] * 2, [0, 1]))

    def test_calls_do_not_matter(self):
        live = LiveRing(FIVE, RING)
        other = LiveRing(FIVE, BARRED)
        other.turn([3, 4, 0, 1, 2])
        self.assertTrue(live == other)
        other.change(2, 3, 4)
        self.assertFalse(live == other)
        live.change(3, 2, 4)
        self.assertTrue(live == other)

    def test_classes(self):
        made = [LiveRing(FIVE, RING), SkipRing(FIVE, RING), ShortRing(FIVE, RING, 16), ShortSkipRing(FIVE, RING, 16)]
        for at, one in enumerate(made):
            for to, other in enumerate(made):
                self.assertIs(one == other, at == to)
                self.assertIs(one != other, at != to)

    def test_bounds(self):
        for kind in (ShortRing, ShortSkipRing):
            self.assertTrue(kind(FIVE, RING, 20) == kind(FIVE, [3, 2, 1, 0, 4], 20))
            self.assertFalse(kind(FIVE, RING, 20) == kind(FIVE, RING, 21))
            self.assertFalse(kind(FIVE, RING, 20) == kind(zeros(5), RING, 20))

    def test_other_values(self):
        live = LiveRing(FIVE, RING)
        for value in (None, True, 0, 5, "", FIVE, RING, (FIVE, RING), {}, object(), LiveRing, [live], live.described()):
            self.assertIs(live == value, False)
            self.assertIs(live != value, True)

    def test_no_keys(self):
        self.assertRaises(TypeError, hash, LiveRing(FIVE, RING))
        self.assertRaises(TypeError, hash, ShortSkipRing(FIVE, RING, 16))

    def test_the_object_alone_says_that_it_is_equal(self):
        class Same:
            def __eq__(self, other):
                return True
        self.assertIs(LiveRing(FIVE, RING) == Same(), False)


class Copies(unittest.TestCase):
    def test_what_was_passed_is_not_kept(self):
        table, ring, row, turned = [row[:] for row in FIVE], RING[:], ROW[:], [5, 0, 1, 2, 3, 4]
        live = LiveRing(table, ring)
        table[0][1] = table[1][0] = 99
        table.append(None)
        ring.reverse()
        self.assertEqual([live.table, live.ring], [FIVE, RING])
        live.add(row, 4)
        live.turn(turned)
        after = live_state(live)
        row[0] = 99
        turned.reverse()
        self.assertEqual(live_state(live), after)
        self.assertEqual([live.table[5], live.ring], [[2, 3, 5, 4, 2, 0], [5, 0, 1, 2, 3, 4]])

    def test_nothing_that_was_passed_is_changed(self):
        table, ring, row, turned = [row[:] for row in FIVE], RING[:], ROW[:], [5, 0, 1, 2, 3, 4]
        changes = (("add", row, 4), ("turn", turned), ("drop", 0), ("change", 0, 1, 50))
        live = LiveRing(table, ring)
        live.tried(*changes)
        for name, *arguments in changes:
            called(live, name, arguments)
        live.undo()
        live.undo()
        self.assertEqual(exact([table, ring, row, turned]), exact([FIVE, RING, ROW, [5, 0, 1, 2, 3, 4]]))
        self.assertEqual(changes, (("add", ROW, 4), ("turn", [5, 0, 1, 2, 3, 4]), ("drop", 0), ("change", 0, 1, 50)))

    def test_a_table_with_one_list_in_all_places(self):
        live = LiveRing([[0] * 5] * 5, RING)
        live.change(0, 1, 7)
        self.assertEqual(live.table, [[0, 7, 0, 0, 0], [7, 0, 0, 0, 0]] + zeros(5)[2:])
        self.assertEqual([live.undo(), live.table], [True, zeros(5)])

    def test_what_was_returned_is_not_kept(self):
        live = ShortSkipRing(FIVE, RING, 20)
        live.add(ROW, 4)
        live.drop(1)
        before = live_state(live)
        for told in (live.table, live.ring, live.log, live.described(), live.tried(("drop", 0))):
            for one in lists_in(told):
                one.clear()
        self.assertEqual(live_state(live), before)
        live.undo()
        live.undo()
        self.assertEqual([live.table, live.ring], [FIVE, RING])

    def test_every_returned_list_is_new(self):
        live = LiveRing([[0] * 5] * 5, RING)
        live.turn(BARRED)
        twin = live.twin()
        told = [[one.table, one.ring, one.log, one.described(), one.tried(("turn", RING))] for one in (live, live, twin)]
        self.assertEqual(len({id(one) for one in lists_in(told)}), len(lists_in(told)))

    def test_properties_are_read_alone(self):
        live = ShortRing(FIVE, RING, 20)
        for name in ("table", "ring", "is_skip", "length", "log", "most"):
            with self.subTest(name), self.assertRaises(AttributeError):
                setattr(live, name, getattr(live, name))


if __name__ == "__main__":
    unittest.main()
