"""[23]: tables of trees and ring roads, and heavy cuts that cross."""

import unittest
from itertools import combinations, product

from skipstops.amounts import heavy_cuts, is_skip
from skipstops.errors import InvalidCount, InvalidLengths, InvalidRoads, NoTable, NotSkip
from skipstops.rings import are_alike, is_ring, is_table, plain_ring
from skipstops.sources import crossing_cuts, ring_table, tree_table, walk_ring
from tests.tools import FIVE, GREATEST, Numbers, RING, SPLIT, bars_by_words, crossing_by_words, drawn_tree, exact
from tests.tools import plain_rings, ring_road_by_words, skip_pairs, skip_table, tree_by_words, walk_by_words, zeros


class Trees(unittest.TestCase):
    def test_by_words(self):
        numbers = Numbers(201)
        for count in (1, 2, 3, 4, 5, 6, 7, 8):
            for limit in (1, 3, 50):
                for _ in range(5):
                    roads = drawn_tree(numbers, count, limit)
                    table = tree_table(count, roads)
                    self.assertEqual(exact(table), exact(tree_by_words(count, roads)))
                    self.assertTrue(is_table(table))
                    ring = walk_ring(count, roads)
                    self.assertEqual(exact(ring), exact(plain_ring(walk_by_words(count, roads))))
                    self.assertEqual(bars_by_words(table, ring), [])

    def test_all_small_trees(self):
        pairs = list(combinations(range(4), 2))
        trees = 0
        for chosen in combinations(pairs, 3):
            roads = [(one, other, 1 + at) for at, (one, other) in enumerate(chosen)]
            if {place for pair in chosen for place in pair} == {0, 1, 2, 3}:
                trees += 1
                self.assertEqual(tree_table(4, roads), tree_by_words(4, roads))
                self.assertEqual(walk_ring(4, roads), plain_ring(walk_by_words(4, roads)))
            else:
                # A triangle and a place without a road.
                self.assertRaises(InvalidRoads, tree_table, 4, roads)
                self.assertRaises(InvalidRoads, walk_ring, 4, roads)
        self.assertEqual(trees, 16)

    def test_thirty_places(self):
        numbers = Numbers(202)
        trees = [drawn_tree(numbers, 30, 1000), [(at, at + 1, at) for at in range(29)], [(at, 29, 1) for at in range(29)],
                 [(at + 1, at // 2, 10 ** 28) for at in range(29)]]
        for roads in trees:
            table = tree_table(30, roads)
            self.assertEqual(table, tree_by_words(30, roads))
            self.assertEqual(walk_ring(30, roads), plain_ring(walk_by_words(30, roads)))
            self.assertTrue(is_skip(table, walk_ring(30, roads)))

    def test_few_places(self):
        self.assertEqual([tree_table(1, []), walk_ring(1, [])], [[[0]], [0]])
        for road in ((0, 1, 7), (1, 0, 7)):
            self.assertEqual([tree_table(2, [road]), walk_ring(2, [road])], [[[0, 7], [7, 0]], [0, 1]])
        self.assertEqual(tree_table(3, [(2, 0, 5), (2, 1, 0)]), [[0, 5, 5], [5, 0, 0], [5, 0, 0]])
        self.assertEqual(walk_ring(3, [(2, 0, 5), (2, 1, 0)]), [0, 1, 2])

    def test_the_walk_goes_back_and_on(self):
        # From 0 to 3, there to 1 and back and to 4, back to 0, then to 5 and 2.
        roads = [(0, 5, 1), (3, 4, 1), (5, 2, 1), (0, 3, 1), (1, 3, 1)]
        self.assertEqual(walk_by_words(6, roads), [0, 3, 1, 4, 5, 2])
        self.assertEqual(walk_ring(6, roads), [0, 2, 5, 4, 1, 3])
        self.assertTrue(are_alike(walk_ring(6, roads), [0, 3, 1, 4, 5, 2]))

    def test_lengths_of_roads(self):
        self.assertEqual(tree_table(3, [(0, 1, 0), (1, 2, 0)]), zeros(3))
        self.assertEqual(tree_table(2, [(0, 1, GREATEST)]), [[0, GREATEST], [GREATEST, 0]])
        # A way of 10 ** 30, and one of one more.
        self.assertEqual(tree_table(3, [(0, 1, GREATEST - 1), (1, 2, 1)])[0], [0, GREATEST - 1, GREATEST])
        self.assertEqual(tree_table(3, [(0, 1, GREATEST), (2, 1, 0)])[2], [GREATEST, 0, 0])
        for roads in ([(0, 1, GREATEST), (1, 2, 1)], [(0, 1, GREATEST), (0, 2, GREATEST)], [(2, 1, 1), (2, 0, GREATEST)]):
            self.assertRaises(NoTable, tree_table, 3, roads)
            # The walk does not ask for the distances.
            self.assertEqual(walk_ring(3, roads), [0, 1, 2])
        self.assertRaises(InvalidRoads, tree_table, 3, [(0, 1, GREATEST), (1, 2, GREATEST + 1)])
        self.assertRaises(InvalidRoads, walk_ring, 2, [(0, 1, GREATEST + 1)])

    def test_no_trees(self):
        good = [(0, 1, 1), (1, 2, 1), (2, 3, 1)]
        wrong = [None, True, 0, "", (), {}, set(), object(), tuple(good), [], good[:2], good + [(0, 3, 1)],
                 good[:2] + [(0, 1, 2)], good[:2] + [(1, 2, 1)], good[:2] + [(2, 0, 1)], good[:2] + [(3, 3, 1)],
                 good[:2] + [(2, 4, 1)], good[:2] + [(-1, 3, 1)], good[:2] + [(2, 3, -1)], good[:2] + [(2, 3, True)],
                 good[:2] + [(2, 3, None)], good[:2] + [(2, 3)], good[:2] + [(2, 3, 1, 1)], good[:2] + [[2, 3, 1]],
                 good[:2] + [None], good[:2] + ["231"], good[:2] + [(True, 3, 1)], good[:2] + [(2, "3", 1)], good[:2] + [()],
                 [(0, True, 1)] + good[1:], [(False, 1, 1)] + good[1:], good[:2] + [(2, 3, "1")], good[:2] + [((2,), 3, 1)],
                 [(0, 1, 1), (2, 3, 1), (3, 2, 1)], [(1, 2, 1), (2, 3, 1), (3, 1, 1)], [(0, 0, 1), (1, 2, 1), (2, 3, 1)]]
        for roads in wrong:
            for function in (tree_table, walk_ring):
                with self.subTest(function.__name__, roads=roads):
                    self.assertRaises(InvalidRoads, function, 4, roads)
        self.assertRaises(InvalidRoads, tree_table, 1, [(0, 0, 1)])
        self.assertRaises(InvalidRoads, walk_ring, 1, [(0, 0, 0)])

    def test_errors_in_their_sequence(self):
        for function in (tree_table, walk_ring):
            for count in (0, 31, -1, True, None, "4"):
                self.assertRaises(InvalidCount, function, count, [])
                self.assertRaises(InvalidCount, function, count, None)
        # A road that is too long for a table does not hide that the others make no tree.
        self.assertRaises(InvalidRoads, tree_table, 4, [(0, 1, GREATEST), (1, 2, GREATEST), (2, 0, 1)])
        self.assertRaises(InvalidRoads, tree_table, 4, [(0, 1, GREATEST), (1, 2, GREATEST), None])


class RingRoads(unittest.TestCase):
    def test_by_words(self):
        numbers = Numbers(203)
        for count in (3, 4, 5, 6, 7, 8):
            for limit in (1, 2, 9, 100):
                lengths = [numbers.below(limit) for _ in range(count)]
                table = ring_table(lengths)
                self.assertEqual(exact(table), exact(ring_road_by_words(lengths)))
                self.assertTrue(is_table(table))
                self.assertEqual(bars_by_words(table, list(range(count))), [])

    def test_all_short_ones(self):
        for lengths in product((0, 1, 2, 5), repeat=4):
            self.assertEqual(ring_table(list(lengths)), ring_road_by_words(lengths))

    def test_thirty_pieces(self):
        numbers = Numbers(204)
        for lengths in ([1] * 30, [numbers.below(50) for _ in range(30)], [0] * 29 + [GREATEST], list(range(30))):
            self.assertEqual(ring_table(lengths), ring_road_by_words(lengths))
            self.assertTrue(is_skip(ring_table(lengths), list(range(30))))

    def test_great_lengths(self):
        self.assertEqual(ring_table([GREATEST, GREATEST, 0]), [[0, GREATEST, 0], [GREATEST, 0, GREATEST], [0, GREATEST, 0]])
        self.assertEqual(ring_table([GREATEST] * 3)[1], [GREATEST, 0, GREATEST])
        self.assertEqual(ring_table([GREATEST - 1, 1, GREATEST, 0])[0], [0, GREATEST - 1, GREATEST, 0])
        # The shorter way alone is asked for.
        self.assertEqual(ring_table([GREATEST, 1, 0])[0], [0, 1, 0])
        for lengths in ([GREATEST] * 4, [GREATEST, 1, GREATEST, 1], [GREATEST, 1, GREATEST, 0, 1]):
            self.assertRaises(NoTable, ring_table, lengths)

    def test_no_lengths(self):
        wrong = [None, True, 3, "", "111", (), (1, 1, 1), {}, {1, 2, 3}, object(), [], [1], [1, 1], [1] * 31, [1, 1, -1],
                 [1, 1, True], [False, 1, 1], [1, None, 1], [1, "1", 1], [1, 1, (1,)], [[1], 1, 1], [1, 1, GREATEST + 1],
                 [1, 1, 10 ** 59], [-10 ** 59, 1, 1], [GREATEST] * 3 + [GREATEST + 1]]
        for lengths in wrong:
            with self.subTest(lengths=lengths):
                self.assertRaises(InvalidLengths, ring_table, lengths)


class Crossing(unittest.TestCase):
    def by_words(self, table, ring):
        heavy = [cut for cut, _ in heavy_cuts(table, ring)]
        pairs = [(one, other) for one in heavy for other in heavy
                 if one < other and crossing_by_words(one, other, len(table))]
        return min(pairs, default=None)

    def test_by_words(self):
        told = {}
        for table, ring in skip_pairs(205, range(1, 10), 4):
            found = crossing_cuts(table, ring)
            self.assertEqual(exact(found), exact(self.by_words(table, ring)))
            told[found is None] = told.get(found is None, 0) + 1
        self.assertGreater(min(told[True], told[False]), 10)

    def test_one_pair_of_cuts(self):
        # Each pair of cuts of rings with six places, alone heavy.
        for ring in ([0, 1, 2, 3, 4, 5], [3, 1, 5, 0, 4, 2]):
            cuts = sorted({cut for size in (2, 3, 4) for start in range(6)
                           for cut in [tuple(sorted((ring + ring)[start:start + size]))] if 0 not in cut})
            self.assertEqual(len(cuts), 9)
            for one, other in combinations(cuts, 2):
                table = [[sum((x in cut) != (y in cut) for cut in (one, other)) for y in range(6)] for x in range(6)]
                wanted = (one, other) if crossing_by_words(one, other, 6) else None
                self.assertEqual(crossing_cuts(table, ring), wanted)

    def test_trees_have_none(self):
        numbers = Numbers(206)
        for count in (1, 2, 3, 4, 5, 8, 30):
            roads = drawn_tree(numbers, count, 9)
            self.assertIsNone(crossing_cuts(tree_table(count, roads), walk_ring(count, roads)))
        self.assertIsNone(crossing_cuts(zeros(30), list(range(30))))

    def test_ring_roads_have_some(self):
        self.assertEqual(crossing_cuts(ring_table([1] * 4), [0, 1, 2, 3]), ((1, 2), (2, 3)))
        self.assertEqual(crossing_cuts(ring_table([1] * 6), [3, 2, 1, 0, 5, 4]), ((1, 2, 3), (2, 3, 4)))
        table = ring_table([1] * 30)
        self.assertEqual(crossing_cuts(table, list(range(30))), (tuple(range(1, 16)), tuple(range(2, 17))))
        self.assertIsNone(crossing_cuts(ring_table([1, 2, 3]), [0, 1, 2]))

    def test_thirty_places(self):
        numbers = Numbers(207)
        for heavy in (3, 10, 40):
            ring = numbers.mixed(range(30))
            table = skip_table(numbers, ring, heavy)
            self.assertEqual(crossing_cuts(table, ring), self.by_words(table, ring))

    def test_the_ring_may_be_any_one(self):
        for ring in plain_rings(5):
            if is_skip(FIVE, ring):
                self.assertEqual(crossing_cuts(FIVE, ring), ((1, 2), (2, 3)))
                self.assertEqual(crossing_cuts(FIVE, ring[2:] + ring[:2]), ((1, 2), (2, 3)))
                self.assertEqual(crossing_cuts(FIVE, ring[::-1]), ((1, 2), (2, 3)))
            else:
                self.assertRaises(NotSkip, crossing_cuts, FIVE, ring)
        self.assertRaises(NotSkip, crossing_cuts, SPLIT, RING)

    def test_kinds(self):
        self.assertEqual(exact(walk_ring(2, [(1, 0, 5)])), ("list", [("int", 0), ("int", 1)]))
        self.assertEqual(exact(crossing_cuts(FIVE, RING))[0], "tuple")
        self.assertTrue(is_ring(5, walk_ring(5, [(at, at + 1, 1) for at in range(4)])))


if __name__ == "__main__":
    unittest.main()
