"""The examples of the document, as they stand."""

import doctest
import unittest

from tests.tools import FIVE, RING, SPLIT

EXAMPLES = {
    "[16]": """
>>> from skipstops.rings import are_alike, around, around_length, is_ring, is_table, plain_ring, trip_length
>>> [is_table(five), is_table([[0, 1], [2, 0]]), is_ring(3, [2, 0, 1]), is_ring(3, [2, 0]), plain_ring([2, 0, 3, 1]), are_alike([2, 0, 1], [0, 1, 2])]
[True, False, True, False, [0, 2, 1, 3], True]
>>> [trip_length(five, [0, 2, 1]), trip_length(five, [3]), around(ring, [3, 0, 2]), around([0, 3, 1, 2, 4], [4, 3, 2]), around_length(five, ring, [3, 0, 2])]
[12, 0, [0, 2, 3], [2, 3, 4], 12]
""",
    "[17]": """
>>> from skipstops.amounts import cut_amounts, cuts_of, heavy_cuts, is_bar, is_skip, place_amounts, table_with
>>> [cuts_of(ring), place_amounts(five, ring), heavy_cuts(five, ring)]
[[(1, 2), (1, 2, 3), (2, 3), (2, 3, 4), (3, 4)], [2, 2, 2, 2, 2], [((1, 2), 2), ((2, 3), 4)]]
>>> [is_skip(five, ring), is_skip(five, [0, 2, 1, 3, 4]), is_bar(five, [0, 2, 1, 3, 4], (0, 1, 2, 3)), is_bar(five, ring, (0, 1, 2, 3))]
[True, False, True, False]
>>> [cut_amounts([[0, 1, 2, 2], [1, 0, 2, 2], [2, 2, 0, 1], [2, 2, 1, 0]], [0, 2, 1, 3]), table_with(ring, [2] * 5, [((1, 2), 2), ((2, 3), 4)]) == five]
[[((1, 2), -2), ((1, 3), -2)], True]
""",
    "[18]": """
>>> from skipstops.finding import common_skip, count_skip, count_trips, has_skip, nth_skip, nth_trip, possible_neighbours
>>> from skipstops.finding import shortest_length, skip_index, skip_ring, sure_neighbours
>>> [shortest_length(five), count_skip(five), skip_ring(five), nth_skip(five, 1), skip_index(five, [4, 1, 2, 3, 0])]
[16, 2, [0, 1, 2, 3, 4], [0, 3, 2, 1, 4], 1]
>>> [sure_neighbours(five), possible_neighbours(five), has_skip(split), shortest_length(split), skip_ring(split), count_trips(split, [0, 1, 2, 3, 4])]
[[(0, 4), (1, 2), (2, 3)], [(0, 1), (0, 3), (0, 4), (1, 2), (1, 4), (2, 3), (3, 4)], False, 6, None, 6]
>>> [nth_trip(split, [0, 1, 2, 3], 0), count_trips(five, [4, 2]), common_skip([five, [[0] * 5] * 5]), common_skip([five, split])]
[[0, 2, 1, 3], 1, [0, 1, 2, 3, 4], None]
""",
    "[19]": """
>>> from skipstops.far import far_trip, greatest_sum, least_sum, longest_length, opposite_pairs, shows_far
>>> [opposite_pairs(ring, [0, 1, 2, 3]), greatest_sum(five, ring, [0, 1, 2, 3]), least_sum(five, ring, [0, 1, 2, 3])]
[[(0, 2), (1, 3)], 10, 6]
>>> [far_trip(ring, ring), longest_length(five, ring, ring), far_trip(ring, [4]), shows_far(five, ring, [0, 1, 2, 3], [(0, 3), (1, 2)])]
[[0, 2, 4, 1, 3], 22, [4], False]
""",
    "[20]": """
>>> from skipstops.choosing import adds, best_prizes, cheapest_stops, dearest_stops, most_stops
>>> [cheapest_stops(five, ring, 3), dearest_stops(five, ring, 3), best_prizes(five, ring, [9, 0, 0, 9, 9]), most_stops(five, ring, 11), adds(five, ring, [0, 4], 1)]
[(8, [0, 1, 4]), (12, [0, 1, 2]), (17, [0, 3, 4]), (3, [0, 1, 4]), 4]
""",
    "[21]": """
>>> from skipstops.shares import bending, costs, even_steps, fair_shares, limits, pays_beyond, shares_by
>>> [costs(five, ring, 0, [2, 1]), costs(five, ring, 0, []), fair_shares(five, ring, 0), shares_by(five, ring, 0, [2, 1, 3, 4])]
[12, 0, [(0, 1), (7, 2), (11, 2), (9, 2), (5, 2)], [0, 2, 10, 2, 2]]
>>> [bending(five, ring, 0), pays_beyond(five, ring, 0, fair_shares(five, ring, 0)), limits(five, ring, 0, [2]), even_steps(five, ring, 0)]
[None, None, (2, 10), [((4, 1), [1, 2, 3, 4])]]
>>> pays_beyond(five, ring, 0, [(0, 1), (4, 1), (4, 1), (2, 1), (6, 1)])[1]
(2, 1)
""",
    "[22]": """
>>> from skipstops.changes import grown, left_out, new_spots, ring_without, shrunk, slack
>>> [slack(five, ring, 0, 2), slack(five, ring, 3, 2), new_spots(five, ring, [2, 3, 5, 4, 2]), left_out(five, [0, 2, 1, 3, 4]), left_out(five, ring)]
[(5, 5), (0, 7), [0, 3, 4], [1], []]
>>> [grown([[0, 4], [4, 0]], [1, 2]), shrunk(five, 1)[0], ring_without([0, 3, 1, 2], 1)]
[[[0, 4, 1], [4, 0, 2], [1, 2, 0]], [0, 5, 4, 2], [0, 2, 1]]
""",
}


class Examples(unittest.TestCase):
    def check(self, point):
        names = {"five": FIVE, "split": SPLIT, "ring": RING}
        example = doctest.DocTestParser().get_doctest(EXAMPLES[point], names, point, None, None)
        told = []
        results = doctest.DocTestRunner().run(example, out=told.append)
        self.assertEqual(results.failed, 0, "".join(told))
        self.assertGreater(results.attempted, 1)

    def test_rings(self):
        self.check("[16]")

    def test_amounts(self):
        self.check("[17]")

    def test_finding(self):
        self.check("[18]")

    def test_far(self):
        self.check("[19]")

    def test_choosing(self):
        self.check("[20]")

    def test_shares(self):
        self.check("[21]")

    def test_changes(self):
        self.check("[22]")


if __name__ == "__main__":
    unittest.main()
