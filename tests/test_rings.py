"""[4], [5], [6], [16]: tables, rings and trips."""

import unittest
from itertools import combinations, permutations

from skipstops.rings import are_alike, around, around_length, is_ring, is_table, plain_ring, trip_length
from tests.tools import FIVE, GREATEST, Numbers, RING, any_table, closed_length, in_ring_sequence, plain_trips, zeros


def all_turns(ring):
    """All lists that are alike with a ring, by the words: begun elsewhere, or backwards, or both."""
    begun = [ring[at:] + ring[:at] for at in range(len(ring))]
    return begun + [list(reversed(one)) for one in begun]


class Tables(unittest.TestCase):
    def test_tables(self):
        for table in ([[0]], [[0, 0], [0, 0]], [[0, GREATEST], [GREATEST, 0]], zeros(30), FIVE, [[0] * 5] * 5):
            self.assertIs(is_table(table), True)

    def test_a_way_by_a_third_place_may_be_shorter(self):
        self.assertIs(is_table([[0, 1, 9], [1, 0, 1], [9, 1, 0]]), True)

    def test_no_tables(self):
        wrong = [None, True, 0, "", "0", b"0", (), ((0,),), {}, {0: [0]}, {0}, object(), [], [[]], [0], [None], ["0"],
                 [(0,)], [[None]], [["0"]], [[[0]]], [[False]], [[1]], [[-1]], [[0], [0]], [[0, 1]], [[0, 1], [1]],
                 [[0, 1], [1, 0, 0]], [[0, 1], [1, 0], [0, 0]], [[0, 1], [2, 0]], [[0, -1], [-1, 0]],
                 [[0, True], [True, 0]], [[0, 1], [True, 0]], [[0, 0], [0, 1]], [[1, 0], [0, 0]], [[0, "a"], ["a", 0]],
                 [[0, GREATEST + 1], [GREATEST + 1, 0]], [[0, 1], (1, 0)], ([0, 1], [1, 0]), zeros(31), zeros(0),
                 [[0, 10 ** 59], [10 ** 59, 0]], [[0, None], [None, 0]], [[False, 1], [1, 0]]]
        for value in wrong:
            with self.subTest(value=value):
                self.assertIs(is_table(value), False)

    def test_each_wrong_entry_is_seen(self):
        for one, other in permutations(range(4), 2):
            table = any_table(Numbers(one), 4, 9)
            table[one][other] += 1
            self.assertIs(is_table(table), False)
        for place in range(4):
            table = any_table(Numbers(place), 4, 9)
            table[place][place] = 1
            self.assertIs(is_table(table), False)

    def test_integers_of_other_classes(self):
        class Whole(int):
            pass

        self.assertIs(is_table([[0, Whole(1)], [1, Whole(0)]]), True)
        self.assertIs(is_table([[0, Whole(1)], [True, 0]]), False)
        self.assertIs(is_table([[0, Whole(1)], [2, 0]]), False)
        self.assertIs(is_ring(2, [Whole(1), 0]), True)

    def test_wrong_entries_of_great_tables(self):
        for count in (2, 17, 30):
            for one, other in ((0, 1), (count - 1, 0), (count // 2 - 1, count - 1), (count - 1, count - 2)):
                for wrong in (True, False, None, "0", (0,), [0], -1, GREATEST + 1, 10 ** 59, -10 ** 59):
                    table = zeros(count)
                    table[one][other] = wrong
                    self.assertIs(is_table(table), False)
                    table[other][one] = wrong
                    self.assertIs(is_table(table), False)
                table = zeros(count)
                table[one][one] = 1
                self.assertIs(is_table(table), False)
                table = zeros(count)
                table[one][other] = table[other][one] = GREATEST
                self.assertIs(is_table(table), True)
                table[one] = tuple(table[one])
                self.assertIs(is_table(table), False)

    def test_objects_that_are_equal_to_all(self):
        class Same:
            def __eq__(self, other):
                return True
        self.assertIs(is_table([[0, Same()], [Same(), 0]]), False)
        self.assertIs(is_ring(2, [0, Same()]), False)

    def test_deep_values(self):
        deep = []
        for _ in range(19):
            deep = [deep]
        self.assertIs(is_table(deep), False)
        self.assertIs(is_ring(1, deep), False)


class Rings(unittest.TestCase):
    def test_rings(self):
        for count in range(1, 5):
            for ring in permutations(range(count)):
                self.assertIs(is_ring(count, list(ring)), True)
        self.assertIs(is_ring(30, list(range(30))), True)
        self.assertIs(is_ring(30, list(range(29, -1, -1))), True)

    def test_no_rings(self):
        wrong = [None, True, 3, "012", b"\x00\x01\x02", (0, 1, 2), {0, 1, 2}, {0: 0, 1: 1, 2: 2}, [], [0, 1],
                 [0, 1, 2, 3], [0, 1, 1], [0, 0, 1, 2], [1, 2, 3], [0, 1, 3], [-1, 0, 1], [0, 1, True], [False, 1, 2],
                 [0, True, 2], [0, 1, "2"], [0, 1, None], [0, 1, [2]], [[0, 1, 2]], [0, 1, 10 ** 59], object()]
        for value in wrong:
            with self.subTest(value=value):
                self.assertIs(is_ring(3, value), False)
        self.assertIs(is_ring(1, [False]), False)
        self.assertIs(is_ring(30, list(range(31))), False)

    def test_plain_rings_are_the_least_alike(self):
        for count in range(1, 7):
            for ring in permutations(range(count)):
                ring = list(ring)
                self.assertEqual(plain_ring(ring), min(all_turns(ring)))
        self.assertEqual(plain_ring(list(range(29, -1, -1))), list(range(30)))

    def test_alike_rings(self):
        for count in range(1, 6):
            rings = [list(ring) for ring in permutations(range(count))]
            for ring in rings:
                for other in rings:
                    self.assertIs(are_alike(ring, other), other in all_turns(ring))


class Trips(unittest.TestCase):
    def test_lengths(self):
        self.assertEqual(trip_length(FIVE, [0, 2, 1]), 5 + 4 + 3)
        self.assertEqual(trip_length(FIVE, [4, 2]), 10)
        self.assertEqual(trip_length(FIVE, [2]), 0)
        self.assertEqual(trip_length([[0]], [0]), 0)
        for size in range(1, 6):
            for trip in permutations(range(5), size):
                self.assertEqual(trip_length(FIVE, list(trip)), closed_length(FIVE, trip))

    def test_great_lengths(self):
        table = [[0 if one == other else GREATEST for other in range(30)] for one in range(30)]
        self.assertEqual(trip_length(table, list(range(30))), 30 * GREATEST)
        self.assertEqual(trip_length(table, [29, 0]), 2 * GREATEST)
        self.assertEqual(around_length(table, list(range(30)), list(range(0, 30, 2))), 15 * GREATEST)

    def test_around(self):
        for ring in permutations(range(5)):
            ring = list(ring)
            for size in range(1, 6):
                for stops in combinations(range(5), size):
                    there = in_ring_sequence(ring, stops)
                    trip = around(ring, list(reversed(stops)))
                    self.assertIn(trip, all_turns(there))
                    self.assertIn(trip, plain_trips(stops))
                    self.assertEqual(around_length(FIVE, ring, list(stops)), closed_length(FIVE, there))

    def test_the_sequence_of_the_stops_does_not_matter(self):
        ring = [3, 0, 4, 1, 2]
        for stops in permutations([4, 2, 3]):
            self.assertEqual(around(ring, list(stops)), [2, 3, 4])
            self.assertEqual(around_length(FIVE, ring, list(stops)), 3 + 4 + 5)

    def test_few_stops(self):
        self.assertEqual(around([0], [0]), [0])
        self.assertEqual(around([1, 0], [1]), [1])
        self.assertEqual(around([1, 0], [1, 0]), [0, 1])
        self.assertEqual(around(RING, [4, 1]), [1, 4])
        self.assertEqual(around([2, 1, 0], [0, 1, 2]), [0, 1, 2])
        self.assertEqual(around_length([[0, 7], [7, 0]], [1, 0], [1, 0]), 14)
        self.assertEqual(around_length(FIVE, RING, [3]), 0)

    def test_thirty_stops(self):
        ring = [*range(0, 30, 2), *range(29, 0, -2)]
        self.assertEqual(around(ring, ring), [0, 1, *range(3, 30, 2), *range(28, 0, -2)])


if __name__ == "__main__":
    unittest.main()
