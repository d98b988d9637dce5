"""[2]: what is passed is never changed, and what is returned is new and of the kinds that are named."""

import copy
import unittest

from skipstops import amounts, changes, choosing, far, finding, live, rings, shares, sources, texts
from tests.tools import FIVE, RING, SPLIT, exact, lists_in, zeros

ZEROS_IN_ONE_LIST = [[0] * 5] * 5

CALLS = [
    (rings.is_table, [FIVE]),
    (rings.is_ring, [5, RING]),
    (rings.plain_ring, [RING]),
    (rings.plain_ring, [[0]]),
    (rings.plain_ring, [[0, 1]]),
    (rings.plain_ring, [[3, 0, 2, 1]]),
    (rings.are_alike, [RING, RING]),
    (rings.trip_length, [FIVE, [4, 0, 2]]),
    (rings.around, [RING, RING]),
    (rings.around, [RING, [3]]),
    (rings.around, [[4, 2, 0, 1, 3], [3, 2, 1]]),
    (rings.around_length, [FIVE, [4, 2, 0, 1, 3], [3, 2, 1]]),
    (amounts.cuts_of, [RING]),
    (amounts.cuts_of, [[1, 0]]),
    (amounts.cut_amounts, [FIVE, [4, 2, 0, 1, 3]]),
    (amounts.place_amounts, [FIVE, [4, 2, 0, 1, 3]]),
    (amounts.place_amounts, [[[0]], [0]]),
    (amounts.is_skip, [FIVE, RING]),
    (amounts.bar_of, [FIVE, [0, 2, 1, 3, 4]]),
    (amounts.is_bar, [FIVE, [0, 2, 1, 3, 4], (0, 1, 2, 3)]),
    (amounts.heavy_cuts, [FIVE, RING]),
    (amounts.table_with, [[4, 2, 0, 1, 3], [2] * 5, [((1, 3), 2), ((1, 3, 4), 4)]]),
    (amounts.table_with, [RING, [0] * 5, []]),
    (amounts.table_with, [[0], [0], []]),
    (amounts.table_with, [[0, 1], [5, 5], []]),
    (finding.shortest_length, [FIVE]),
    (finding.has_skip, [SPLIT]),
    (finding.count_skip, [FIVE]),
    (finding.nth_skip, [FIVE, 1]),
    (finding.skip_index, [FIVE, [3, 4, 0, 1, 2]]),
    (finding.skip_ring, [FIVE]),
    (finding.skip_ring, [[[0]]]),
    (finding.sure_neighbours, [FIVE]),
    (finding.possible_neighbours, [FIVE]),
    (finding.count_trips, [SPLIT, [4, 0, 2, 1]]),
    (finding.nth_trip, [SPLIT, [4, 0, 2, 1, 3], 1]),
    (finding.nth_trip, [SPLIT, [4], 0]),
    (finding.common_skip, [[FIVE, ZEROS_IN_ONE_LIST, FIVE]]),
    (finding.common_skip, [[FIVE]]),
    (finding.skip_ring, [ZEROS_IN_ONE_LIST]),
    (far.opposite_pairs, [[3, 4, 0, 1, 2], [4, 1, 0, 2]]),
    (far.far_trip, [[3, 4, 0, 1, 2], [3, 4, 0, 1, 2]]),
    (far.far_trip, [[0], [0]]),
    (far.greatest_sum, [FIVE, [3, 4, 0, 1, 2], [4, 1, 0, 2]]),
    (far.least_sum, [FIVE, [3, 4, 0, 1, 2], [4, 1, 0, 2]]),
    (far.longest_length, [FIVE, [3, 4, 0, 1, 2], [4, 1, 0]]),
    (far.shows_far, [FIVE, RING, [4, 1, 0, 2], [(0, 2), (1, 4)]]),
    (far.shows_far, [FIVE, RING, [4, 1, 0], [4, 1, 0]]),
    (choosing.cheapest_stops, [FIVE, [3, 4, 0, 1, 2], 3]),
    (choosing.cheapest_stops, [FIVE, [3, 4, 0, 1, 2], 5]),
    (choosing.dearest_stops, [FIVE, [3, 4, 0, 1, 2], 3]),
    (choosing.best_prizes, [FIVE, [3, 4, 0, 1, 2], [9, 0, 0, 9, 9]]),
    (choosing.best_prizes, [ZEROS_IN_ONE_LIST, RING, [0, 0, 0, 0, 0]]),
    (choosing.most_stops, [FIVE, [3, 4, 0, 1, 2], 11]),
    (choosing.most_stops, [[[0]], [0], 0]),
    (choosing.adds, [FIVE, [3, 4, 0, 1, 2], [4, 0], 1]),
    (shares.costs, [FIVE, [3, 4, 0, 1, 2], 3, [4, 0]]),
    (shares.fair_shares, [FIVE, [3, 4, 0, 1, 2], 3]),
    (shares.fair_shares, [[[0]], [0], 0]),
    (shares.shares_by, [FIVE, [3, 4, 0, 1, 2], 3, [4, 0, 2, 1]]),
    (shares.bending, [FIVE, [3, 4, 0, 1, 2], 3]),
    (shares.pays_beyond, [FIVE, RING, 0, [(0, 3), (4, 1), (8, 2), (2, 1), (6, 1)]]),
    (shares.pays_beyond, [FIVE, RING, 0, [(0, 1), (7, 2), (11, 2), (9, 2), (5, 2)]]),
    (shares.limits, [FIVE, [3, 4, 0, 1, 2], 3, [4, 0]]),
    (shares.even_steps, [FIVE, [3, 4, 0, 1, 2], 3]),
    (shares.even_steps, [[[0, 4, 6], [4, 0, 10], [6, 10, 0]], [2, 0, 1], 0]),
    (shares.even_steps, [[[0]], [0], 0]),
    (changes.slack, [FIVE, [3, 4, 0, 1, 2], 3, 0]),
    (changes.grown, [FIVE, [3, 4, 0, 1, 2]]),
    (changes.grown, [ZEROS_IN_ONE_LIST, [3, 4, 0, 1, 2]]),
    (changes.shrunk, [FIVE, 0]),
    (changes.shrunk, [ZEROS_IN_ONE_LIST, 3]),
    (changes.ring_without, [[3, 4, 0, 1, 2], 2]),
    (changes.new_spots, [FIVE, [3, 4, 0, 1, 2], [2, 3, 5, 4, 2]]),
    (changes.left_out, [FIVE, [3, 4, 0, 2, 1]]),
    (changes.left_out, [FIVE, RING]),
    (sources.tree_table, [5, [(3, 1, 2), (1, 0, 4), (4, 3, 0), (2, 0, 7)]]),
    (sources.tree_table, [1, []]),
    (sources.walk_ring, [5, [(3, 1, 2), (1, 0, 4), (4, 3, 0), (2, 0, 7)]]),
    (sources.walk_ring, [1, []]),
    (sources.ring_table, [[3, 4, 0, 1, 2]]),
    (sources.crossing_cuts, [FIVE, [3, 4, 0, 1, 2]]),
    (texts.show_table, [FIVE]),
    (texts.show_ring, [[3, 4, 0, 1, 2]]),
    (texts.show_shares, [[(6, 4), (0, 2), (5, 1)]]),
    (texts.read_table, ["3\n5 4"]),
    (texts.read_table, [""]),
    (texts.read_ring, [5, "3-4-0-1-2"]),
    (texts.read_shares, [3, "3/2 0 5"]),
]
FAILING = [
    (amounts.heavy_cuts, [FIVE, [0, 2, 1, 3, 4]]),
    (amounts.table_with, [RING, [1, 2, 3, 4, 5], [((1, 2), 3)]]),
    (amounts.table_with, [RING, [2] * 5, [((2, 3), 3), ((1, 2), 3)]]),
    (finding.nth_skip, [FIVE, 2]),
    (finding.skip_index, [SPLIT, [0, 2, 1, 3, 4]]),
    (finding.sure_neighbours, [SPLIT]),
    (finding.nth_trip, [zeros(11), [*range(10, -1, -1)], 2]),
    (rings.around, [RING, [4, 3, 4]]),
    (far.greatest_sum, [FIVE, RING, [4, 2, 0]]),
    (far.far_trip, [RING, [4, 2]]),
    (choosing.best_prizes, [SPLIT, RING, [9, 8, 7, 6, 5]]),
    (choosing.most_stops, [FIVE, [0, 2, 1, 3, 4], 11]),
    (shares.shares_by, [FIVE, RING, 0, [4, 2, 1, 2]]),
    (shares.pays_beyond, [FIVE, RING, 0, [(0, 3), (4, 1), (8, 2), (2, 1), (7, 1)]]),
    (shares.even_steps, [[[0, 1, 1], [1, 0, 9], [1, 9, 0]], [2, 0, 1], 0]),
    (shares.limits, [[[0, 1, 1], [1, 0, 9], [1, 9, 0]], [2, 0, 1], 0, [2, 1]]),
    (changes.grown, [zeros(30), [3] * 30]),
    (changes.new_spots, [zeros(30), [*range(29, -1, -1)], [3] * 30]),
    (changes.shrunk, [[[0]], 0]),
    (changes.ring_without, [[0], 0]),
    (changes.left_out, [zeros(11), [*range(10, -1, -1)]]),
    (sources.tree_table, [3, [(2, 1, 10 ** 30), (1, 0, 1)]]),
    (sources.tree_table, [4, [(2, 1, 1), (1, 0, 1), (2, 0, 1)]]),
    (sources.walk_ring, [4, [(2, 1, 1), (1, 0, 1), (2, 0, 1)]]),
    (sources.ring_table, [[10 ** 30] * 4]),
    (sources.crossing_cuts, [FIVE, [0, 2, 1, 3, 4]]),
    (texts.show_shares, [[(6, 4), (-1, 2), (5, 1)]]),
    (live.SkipRing, [FIVE, [0, 2, 1, 3, 4]]),
    (live.ShortRing, [FIVE, [3, 4, 0, 1, 2], 15]),
    (live.ShortSkipRing, [FIVE, [3, 4, 0, 1, 2], 15]),
]


def fresh(arguments):
    """A deep copy that keeps which lists are one."""
    return copy.deepcopy(arguments)


class Values(unittest.TestCase):
    def test_no_argument_is_changed(self):
        for function, given in CALLS:
            arguments = fresh(given)
            function(*arguments)
            with self.subTest(function.__name__, given=given):
                self.assertEqual(exact(arguments), exact(given))

    def test_nor_by_a_call_that_fails(self):
        for function, given in FAILING:
            arguments = fresh(given)
            with self.subTest(function.__name__, given=given):
                self.assertRaises(ValueError, function, *arguments)
                self.assertEqual(exact(arguments), exact(given))

    def test_every_returned_list_is_new(self):
        for function, given in CALLS:
            arguments = fresh(given)
            first = function(*arguments)
            second = function(*arguments)
            lists = lists_in(first) + lists_in(second)
            kept = {id(one) for one in lists_in(arguments)}
            with self.subTest(function.__name__, given=given):
                self.assertEqual(len({id(one) for one in lists}), len(lists))
                self.assertFalse(kept & {id(one) for one in lists})

    def test_what_a_caller_does_to_a_result_changes_nothing(self):
        for function, given in CALLS:
            arguments = fresh(given)
            wanted = exact(function(*arguments))
            for one in lists_in(function(*arguments)):
                one.append(None)
            with self.subTest(function.__name__, given=given):
                self.assertEqual(exact(arguments), exact(given))
                self.assertEqual(exact(function(*arguments)), wanted)

    def test_kinds(self):
        self.assertEqual(exact(amounts.cuts_of(RING))[1][0], ("tuple", [("int", 1), ("int", 2)]))
        pair = exact(amounts.cut_amounts(FIVE, RING))[1][0]
        self.assertEqual(pair, ("tuple", [("tuple", [("int", 1), ("int", 2)]), ("int", 2)]))
        self.assertEqual(exact(amounts.heavy_cuts(FIVE, RING))[1][0], pair)
        self.assertEqual(exact(amounts.place_amounts(FIVE, RING)), ("list", [("int", 2)] * 5))
        self.assertEqual(exact(amounts.bar_of(FIVE, [0, 2, 1, 3, 4]))[0], "tuple")
        self.assertEqual([type(one) for one in finding.sure_neighbours(FIVE)], [tuple] * 3)
        self.assertEqual([type(one) for one in finding.possible_neighbours(FIVE)], [tuple] * 7)
        self.assertEqual([type(row) for row in amounts.table_with(RING, [0] * 5, [])], [list] * 5)
        for truth in (rings.is_table(FIVE), rings.are_alike(RING, RING), amounts.is_skip(FIVE, RING)):
            self.assertIs(truth, True)
        self.assertEqual(exact(finding.count_skip(SPLIT)), ("int", 0))

    def test_kinds_of_what_is_chosen_or_shared(self):
        integers = ("list", [("int", 0), ("int", 1), ("int", 4)])
        self.assertEqual(exact(choosing.cheapest_stops(FIVE, RING, 3)), ("tuple", [("int", 8), integers]))
        self.assertEqual(exact(choosing.most_stops(FIVE, RING, 11)), ("tuple", [("int", 3), integers]))
        self.assertEqual(exact(choosing.best_prizes(FIVE, RING, [0] * 5)), ("tuple", [("int", 0), ("list", [])]))
        self.assertEqual(exact(far.opposite_pairs(RING, [3, 1])), ("list", [("tuple", [("int", 1), ("int", 3)])]))
        self.assertEqual(exact(shares.fair_shares(FIVE, RING, 0))[1][1], ("tuple", [("int", 7), ("int", 2)]))
        steps = exact(shares.even_steps(FIVE, RING, 0))
        self.assertEqual(steps[1][0][1][0], ("tuple", [("int", 4), ("int", 1)]))
        self.assertEqual([steps[0], steps[1][0][0], steps[1][0][1][1][0]], ["list", "tuple", "list"])
        self.assertEqual(exact(changes.slack([[0, 4], [4, 0]], [0, 1], 0, 1)), ("tuple", [("int", 0), ("NoneType", None)]))
        self.assertEqual(exact(shares.limits(FIVE, RING, 0, [2])), ("tuple", [("int", 2), ("int", 10)]))
        told = exact(shares.pays_beyond(FIVE, RING, 0, [(0, 1), (4, 1), (4, 1), (2, 1), (6, 1)]))
        self.assertEqual([told[0], told[1][0][0], told[1][1]], ["tuple", "list", ("tuple", [("int", 2), ("int", 1)])])
        for truth in (far.shows_far(FIVE, RING, [0], [0]), far.shows_far(FIVE, RING, [0, 1], [(0, 1)])):
            self.assertIs(truth, True)

    def test_kinds_of_what_is_told(self):
        self.assertEqual(exact(sources.crossing_cuts(FIVE, RING))[1][0], ("tuple", [("int", 1), ("int", 2)]))
        self.assertEqual(exact(sources.ring_table([0, 1, 1]))[1][0], ("list", [("int", 0), ("int", 0), ("int", 1)]))
        self.assertEqual(exact(texts.read_shares(2, "0 7/2"))[1][0], ("tuple", [("int", 0), ("int", 1)]))
        self.assertEqual(exact(texts.read_ring(1, "0")), ("list", [("int", 0)]))
        self.assertEqual(exact(texts.show_ring([0])), ("str", "0"))

    def test_integers_of_other_classes(self):
        class Whole(int):
            pass

        zero, one, two = Whole(0), Whole(1), Whole(2)
        self.assertEqual(sources.tree_table(two, [(zero, one, two)]), [[0, 2], [2, 0]])
        self.assertEqual(texts.show_shares([(one, two), (two, one)]), "1/2 2")
        kept = live.LiveRing([[0, two], [two, 0]], [one, zero])
        self.assertEqual([kept.change(zero, one, one), kept.length], [True, 2])

    def test_values_that_were_returned_may_be_passed_back(self):
        great = amounts.place_amounts([[0, 10 ** 30, 10 ** 30], [10 ** 30, 0, 0], [10 ** 30, 0, 0]], [0, 1, 2])
        self.assertEqual(great, [2 * 10 ** 30, 0, 0])
        self.assertEqual(amounts.table_with([2, 1, 0], great, [])[0], [0, 10 ** 30, 10 ** 30])
        self.assertEqual(finding.skip_index(FIVE, finding.nth_skip(FIVE, 1)), 1)
        fair = shares.fair_shares(FIVE, RING, 0)
        self.assertIsNone(shares.pays_beyond(FIVE, RING, 0, fair))
        great = [[0 if one == other else 10 ** 30 for other in range(30)] for one in range(30)]
        length = choosing.dearest_stops(great, list(range(30)), 30)[0]
        self.assertEqual(choosing.most_stops(great, list(range(30)), length)[0], 30)


if __name__ == "__main__":
    unittest.main()
