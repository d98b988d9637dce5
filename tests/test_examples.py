"""The examples of the document, as they stand."""

import doctest
import unittest

from skipstops.errors import RingError
from tests.tools import FIVE, RING, SPLIT

EXAMPLES = {
    "[16]": """
>>> from skipstops.rings import are_alike, around, around_length, is_ring, is_table, plain_ring, trip_length
>>> [is_table(five), is_table([[0, 1], [2, 0]]), is_ring(3, [2, 0, 1]), is_ring(3, [2, 0]), plain_ring([2, 0, 3, 1]), are_alike([2, 0, 1], [0, 1, 2])]
[True, False, True, False, [0, 2, 1, 3], True]
>>> [trip_length(five, [0, 2, 1]), trip_length(five, [3]), around(ring, [3, 0, 2]), around([0, 3, 1, 2, 4], [4, 3, 2]), around_length(five, ring, [3, 0, 2])]
[12, 0, [0, 2, 3], [2, 3, 4], 12]
""",
    "[17]": """
>>> from skipstops.amounts import cut_amounts, cuts_of, heavy_cuts, is_bar, is_skip, place_amounts, table_with
>>> [cuts_of(ring), place_amounts(five, ring), heavy_cuts(five, ring)]
[[(1, 2), (1, 2, 3), (2, 3), (2, 3, 4), (3, 4)], [2, 2, 2, 2, 2], [((1, 2), 2), ((2, 3), 4)]]
>>> [is_skip(five, ring), is_skip(five, [0, 2, 1, 3, 4]), is_bar(five, [0, 2, 1, 3, 4], (0, 1, 2, 3)), is_bar(five, ring, (0, 1, 2, 3))]
[True, False, True, False]
>>> [cut_amounts([[0, 1, 2, 2], [1, 0, 2, 2], [2, 2, 0, 1], [2, 2, 1, 0]], [0, 2, 1, 3]), table_with(ring, [2] * 5, [((1, 2), 2), ((2, 3), 4)]) == five]
[[((1, 2), -2), ((1, 3), -2)], True]
""",
    "[18]": """
>>> from skipstops.finding import common_skip, count_skip, count_trips, has_skip, nth_skip, nth_trip, possible_neighbours
>>> from skipstops.finding import shortest_length, skip_index, skip_ring, sure_neighbours
>>> [shortest_length(five), count_skip(five), skip_ring(five), nth_skip(five, 1), skip_index(five, [4, 1, 2, 3, 0])]
[16, 2, [0, 1, 2, 3, 4], [0, 3, 2, 1, 4], 1]
>>> [sure_neighbours(five), possible_neighbours(five), has_skip(split), shortest_length(split), skip_ring(split), count_trips(split, [0, 1, 2, 3, 4])]
[[(0, 4), (1, 2), (2, 3)], [(0, 1), (0, 3), (0, 4), (1, 2), (1, 4), (2, 3), (3, 4)], False, 6, None, 6]
>>> [nth_trip(split, [0, 1, 2, 3], 0), count_trips(five, [4, 2]), common_skip([five, [[0] * 5] * 5]), common_skip([five, split])]
[[0, 2, 1, 3], 1, [0, 1, 2, 3, 4], None]
""",
    "[19]": """
>>> from skipstops.far import far_trip, greatest_sum, least_sum, longest_length, opposite_pairs, shows_far
>>> [opposite_pairs(ring, [0, 1, 2, 3]), greatest_sum(five, ring, [0, 1, 2, 3]), least_sum(five, ring, [0, 1, 2, 3])]
[[(0, 2), (1, 3)], 10, 6]
>>> [far_trip(ring, ring), longest_length(five, ring, ring), far_trip(ring, [4]), shows_far(five, ring, [0, 1, 2, 3], [(0, 3), (1, 2)])]
[[0, 2, 4, 1, 3], 22, [4], False]
""",
    "[20]": """
>>> from skipstops.choosing import adds, best_prizes, cheapest_stops, dearest_stops, most_stops
>>> [cheapest_stops(five, ring, 3), dearest_stops(five, ring, 3), best_prizes(five, ring, [9, 0, 0, 9, 9]), most_stops(five, ring, 11), adds(five, ring, [0, 4], 1)]
[(8, [0, 1, 4]), (12, [0, 1, 2]), (17, [0, 3, 4]), (3, [0, 1, 4]), 4]
""",
    "[21]": """
>>> from skipstops.shares import bending, costs, even_steps, fair_shares, limits, pays_beyond, shares_by
>>> [costs(five, ring, 0, [2, 1]), costs(five, ring, 0, []), fair_shares(five, ring, 0), shares_by(five, ring, 0, [2, 1, 3, 4])]
[12, 0, [(0, 1), (7, 2), (11, 2), (9, 2), (5, 2)], [0, 2, 10, 2, 2]]
>>> [bending(five, ring, 0), pays_beyond(five, ring, 0, fair_shares(five, ring, 0)), limits(five, ring, 0, [2]), even_steps(five, ring, 0)]
[None, None, (2, 10), [((4, 1), [1, 2, 3, 4])]]
>>> pays_beyond(five, ring, 0, [(0, 1), (4, 1), (4, 1), (2, 1), (6, 1)])[1]
(2, 1)
""",
    "[22]": """
>>> from skipstops.changes import grown, left_out, new_spots, ring_without, shrunk, slack
>>> [slack(five, ring, 0, 2), slack(five, ring, 3, 2), new_spots(five, ring, [2, 3, 5, 4, 2]), left_out(five, [0, 2, 1, 3, 4]), left_out(five, ring)]
[(5, 5), (0, 7), [0, 3, 4], [1], []]
>>> [grown([[0, 4], [4, 0]], [1, 2]), shrunk(five, 1)[0], ring_without([0, 3, 1, 2], 1)]
[[[0, 4, 1], [4, 0, 2], [1, 2, 0]], [0, 5, 4, 2], [0, 2, 1]]
""",
    "[23]": r"""
>>> from skipstops.sources import crossing_cuts, ring_table, tree_table, walk_ring
>>> roads = [(0, 1, 2), (1, 2, 3), (3, 1, 4)]
>>> [tree_table(4, roads)[2], walk_ring(4, roads), ring_table([1, 2, 3, 4])[0], crossing_cuts(five, ring), crossing_cuts(tree_table(4, roads), [0, 1, 2, 3])]
[[5, 3, 0, 7], [0, 1, 2, 3], [0, 1, 3, 4], ((1, 2), (2, 3)), None]
""",
    "[24] [25]": r"""
>>> from skipstops.live import LiveRing, ShortRing, SkipRing
>>> live = LiveRing(five, ring)
>>> [live.is_skip, live.length, live.change(2, 3, 8), live.length, live.undo(), live.add([2, 3, 5, 4, 2], 4), live.ring, len(live)]
[True, 16, False, 21, True, True, [0, 1, 2, 3, 4, 5], 6]
>>> [live.drop(1), live.ring, live.table[0], live.tried(("turn", [0, 2, 1, 3, 4]), ("change", 0, 1, 9)), live.log, live.described()]
[True, [0, 1, 2, 3, 4], [0, 5, 4, 2, 2], [True, False], ['add', 'drop'], ['places 5', 'length 16', 'skip']]
>>> SkipRing(five, ring).turn([0, 2, 1, 3, 4])
raises NotSkip
>>> ShortRing(five, ring, 20).change(2, 3, 8)
raises TooLong(size=21)
""",
    "[26]": r"""
>>> from skipstops.texts import read_ring, read_shares, read_table, show_ring, show_shares, show_table
>>> [show_table([[0, 3, 5], [3, 0, 4], [5, 4, 0]]), read_table("3\n5 4"), read_table(""), show_ring([0, 2, 1]), read_ring(3, "0-2-1")]
['3\n5 4', [[0, 3, 5], [3, 0, 4], [5, 4, 0]], [[0]], '0-2-1', [0, 2, 1]]
>>> [show_shares([(0, 1), (7, 2), (6, 4), (4, 2)]), read_shares(2, "0 7/2")]
['0 7/2 3/2 2', [(0, 1), (7, 2)]]
>>> read_table("3\n5 04")
raises InvalidText(number=1)
""",
    "[27]": r"""
>>> from skipstops.console import Console
>>> console = Console()
>>> [console.execute(one) for one in ["table 3; 5 4; 4 5 3; 2 3 5 4", "length", "cuts", "rings", "find", "around 3,0,2", "far 0,1,2,3", "cheapest 3"]]
['skip', '16', '1,2:2 2,3:4', '2', '0-1-2-3-4', '12', '10', '0,1,4']
>>> [console.execute(one) for one in ["shares 0", "slack 2 3", "turn 0-2-1-3-4", "undo", "change 2 3 8", "show", "ring"]]
['0 7/2 11/2 9/2 5/2', '0 7', 'bar', 'skip', 'bar', '3; 5 4; 4 5 8; 2 3 5 4', '0-1-2-3-4']
""",
}


def told(error):
    """An error as the document tells it."""
    fields = ", ".join(f"{name}={value!r}" for name, value in vars(error).items())
    return f"raises {type(error).__name__}({fields})" if fields else f"raises {type(error).__name__}"


class Examples(unittest.TestCase):
    def check(self, point):
        names = {"five": FIVE, "split": SPLIT, "ring": RING}
        examples = doctest.DocTestParser().get_examples(EXAMPLES[point])
        wanted = [example.want.strip() for example in examples]
        self.assertGreater(len([want for want in wanted if want]), 0)
        for example, want in zip(examples, wanted):
            with self.subTest(example.source):
                self.assertEqual(self.answer(example.source, bool(want), names), want)

    def answer(self, source, is_told, names):
        """What an example answers, "" if nothing is told of it."""
        if not is_told:
            exec(source, names)
            return ""
        try:
            return repr(eval(source, names))
        except RingError as error:
            return told(error)

    def test_rings(self):
        self.check("[16]")

    def test_amounts(self):
        self.check("[17]")

    def test_finding(self):
        self.check("[18]")

    def test_far(self):
        self.check("[19]")

    def test_choosing(self):
        self.check("[20]")

    def test_shares(self):
        self.check("[21]")

    def test_changes(self):
        self.check("[22]")

    def test_sources(self):
        self.check("[23]")

    def test_live(self):
        self.check("[24] [25]")

    def test_texts(self):
        self.check("[26]")

    def test_console(self):
        self.check("[27]")


if __name__ == "__main__":
    unittest.main()
