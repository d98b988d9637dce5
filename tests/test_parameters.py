"""[2], [3]: which error a wrong parameter raises, and that the first wrong one raises it."""

import inspect
import unittest

from skipstops import amounts, changes, choosing, console, errors, far, finding, live, rings, shares, sources, texts
from tests.tools import FIVE, GREATEST, RING, SPLIT, zeros

NO_LISTS = [None, True, False, 0, 1, -1, "", "01234", b"01234", (), {}, {0: 0}, set(), object()]
NO_INTEGERS = [None, True, False, "", "0", "1", b"1", (), (1,), [], [1], {}, {1}, object()]
NO_PLACES = [[], [True], [False], [0, True], [5], [-1], [0, 0], [1, 2, 1], [0, 10 ** 59], [None], ["0"], [[0, 1]], [(0,)],
             [0, 1, 2, 3, 4, 5], [0, 1, 2, 3, 4, 4]]
BEYOND = GREATEST + 1

WRONG = {
    "count": NO_INTEGERS + [0, -1, 31, 10 ** 59, -10 ** 59],
    "table": NO_LISTS + [[], [[]], [[1]], [[False]], [[0], [0]], [[0, 1], [2, 0]], [(0,)], ([0],), [[0, True], [1, 0]],
                         [[0, -1], [-1, 0]], [[0, BEYOND], [BEYOND, 0]], zeros(31), [None], [[0, 1], [1, 1]]],
    "tables": NO_LISTS + [[], [None], [FIVE, None], [FIVE, [[0]]], [[[0]], FIVE], [FIVE] * 7, (FIVE,), FIVE, [[[1]]],
                          [FIVE, FIVE, [[0, True], [True, 0]]], [[]], [zeros(31)]],
    "ring": NO_LISTS + NO_PLACES + [tuple(RING), [0, 1, 2, 3], [1, 2, 3, 4, 5], [0, True, 2, 3, 4], [False, 1, 2, 3, 4]],
    "stops": NO_LISTS + NO_PLACES + [(0, 1), {0, 1}, "01"],
    "trip": NO_LISTS + NO_PLACES + [(0, 1), {0, 1}, "01"],
    "index": NO_INTEGERS + [-1, -10 ** 59],
    "amounts": NO_LISTS + [[], [2] * 4, [2] * 6, [2, 2, 2, 2, True], [2, 2, 2, 2, None], ["2"] * 5, (2,) * 5],
    "cuts": NO_LISTS[:9] + [((1, 2), 2), [None], [()], [((1, 2),)], [((1, 2), 2, 2)], [[(1, 2), 2]], [([1, 2], 2)],
                            [((1, 2), True)], [((1, 2), None)], [((1, 2), "2")], [((True, 2), 2)], [((2, 1), 2)],
                            [((1, 3), 2)], [((0, 1), 2)], [((3, 4, 0), 2)], [((1,), 2)], [((), 2)], [((1, 5), 2)],
                            [((1, 2, 3, 4), 2)], [((2, 3), 2), ((1, 2), 2)], [((1, 2), 2), ((1, 2), 2)], [(None, 2)],
                            [(([1], 2), 2)], [((1, 2), 2), ((1, 2), 4)], [((1, 2), 2), None], [12], [(12, 2)], {}, set()],
}
NO_ROWS = NO_LISTS + [[], [0] * 4, [0] * 6, [0, 0, 0, 0, True], [False, 0, 0, 0, 0], [0, 0, -1, 0, 0], [0, 0, 0, 0, BEYOND],
                      [0, 0, None, 0, 0], ["0"] * 5, (0,) * 5, [[0]] * 5, [(0,)] * 5]
WRONG["place"] = NO_INTEGERS + [-1, 5, 10 ** 59, -5]
WRONG["one"] = WRONG["depot"] = WRONG["place"]
WRONG["other"] = WRONG["place"] + [3]
WRONG["many"] = NO_INTEGERS + [0, -1, 6, 10 ** 59]
WRONG["length"] = NO_INTEGERS + [-1, -10 ** 59]
WRONG["prizes"] = WRONG["row"] = NO_ROWS
WRONG["group"] = NO_LISTS + NO_PLACES[1:] + [(0, 1), {0, 1}, [2], [0, 1, 2], [0, True]]
WRONG["sequence"] = NO_LISTS + NO_PLACES + [RING, [0, 1, 3], [0, 1, 3, 4, 0], (0, 1, 3, 4), [0, 1, 2, 3], [0, True, 3, 4]]
WRONG["shares"] = NO_LISTS + [[], [(0, 1)] * 5, [(4, 1), (4, 1), (0, 1), (4, 1), (4, 0)], [(4, 1), (4, 1), (0, 1), (4, 1)],
                              [(4, 1), (4, 1), (0, 1), (4, 1), (4, True)], [(4, 1), (4, 1), (0, 1), (4, 1), 4],
                              [(0, 1), (4, 1), (4, 1), (4, 1), (4, 1)], [(4, 1), (4, 1), (False, 1), (4, 1), (4, 1)],
                              [[4, 1], (4, 1), (0, 1), (4, 1), (4, 1)], [(4, 1), (4, 1), (0, 1), (4, 1), (9, 2)]]
# A ring that no parameter stands ahead of may have any number of places from 1 to 30.
WRONG["free ring"] = [value for value in WRONG["ring"] if value not in ([0, 1, 2, 3], [0, 1, 2, 3, 4, 5])]
WRONG["free ring"] += [list(range(31)), [1, 2, 3], [0, 2]]
WRONG["other_ring"] = WRONG["ring"]
ROADS = [(0, 3, 1), (3, 1, 2), (4, 0, 0), (2, 4, 7)]
WRONG["roads"] = NO_LISTS + [[], ROADS[:3], ROADS + [(0, 1, 1)], tuple(ROADS), ROADS[:3] + [(0, 1, 1)], ROADS[:3] + [(2, 2, 1)],
                             ROADS[:3] + [(2, 5, 1)], ROADS[:3] + [(2, 4, True)], ROADS[:3] + [(2, True, 1)],
                             ROADS[:3] + [(2, 4, BEYOND)], ROADS[:3] + [(2, 4, -1)], ROADS[:3] + [[2, 4, 7]], ROADS[:3] + [None]]
WRONG["lengths"] = NO_LISTS + [[], [1, 2], [1] * 31, (1, 2, 3), [1, 2, -3], [1, 2, True], [1, 2, None], [1, 2, BEYOND], ["1"] * 3]
WRONG["shown shares"] = NO_LISTS + [[], [(0, 1)] * 31, [(-1, 1)], [(1, 0)], [(1, True)], [(False, 1)], [[1, 1]], [(1,)], [None]]
NO_TEXTS = [None, True, False, 0, 1, b"", b"0", [], ["0"], (), ("0",), {}, set(), object()]
WRONG["table text"] = NO_TEXTS + ["x", "-1", "1\n", "1 2", "01", str(BEYOND), "1" * 61]
WRONG["ring text"] = NO_TEXTS + ["", "0", "0-1-2-3", "0-1-2-3-3", "0-1-2-3-04", "0 1 2 3 4", "0-1-2-3-x"]
WRONG["shares text"] = NO_TEXTS + ["", "0", "0 1 2 3", "0 1 2 3 4 5", "0 1 2 3 4/2", "0 1 2 3 -4", "0 1 2 3 x", "0  1 2 3 4"]
WRONG["the most"] = WRONG["length"]
ERRORS = {
    "count": errors.InvalidCount, "table": errors.InvalidTable, "tables": errors.InvalidTables,
    "ring": errors.InvalidRing, "free ring": errors.InvalidRing, "other_ring": errors.InvalidRing,
    "stops": errors.InvalidStops, "trip": errors.InvalidTrip, "index": errors.InvalidIndex,
    "amounts": errors.InvalidAmounts, "cuts": errors.InvalidCuts,
    "place": errors.InvalidPlace, "one": errors.InvalidPlace, "other": errors.InvalidPlace, "depot": errors.InvalidPlace,
    "many": errors.InvalidNumber, "length": errors.InvalidNumber, "prizes": errors.InvalidPrizes,
    "row": errors.InvalidRow, "group": errors.InvalidStops, "sequence": errors.InvalidSequence,
    "shares": errors.InvalidShares, "even stops": errors.InvalidStops, "odd stops": errors.InvalidStops,
    "roads": errors.InvalidRoads, "lengths": errors.InvalidLengths, "shown shares": errors.InvalidShares,
    "table text": errors.InvalidText, "ring text": errors.InvalidText, "shares text": errors.InvalidText,
    "the most": errors.InvalidNumber,
}
WRONG["even stops"] = WRONG["odd stops"] = WRONG["stops"]
GOOD = {
    "count": 5, "table": FIVE, "tables": [FIVE, FIVE], "ring": RING, "free ring": RING, "other_ring": [3, 1, 2, 0, 4],
    "stops": [3, 0], "trip": [3, 0], "index": 0, "amounts": [2] * 5, "cuts": [((1, 2), 2)], "value": RING,
    "place": 2, "one": 3, "other": 0, "depot": 2, "many": 3, "length": 11, "prizes": [9, 0, 0, 9, 9],
    "row": [2, 3, 5, 4, 2], "group": [4, 1], "sequence": [4, 0, 1, 3],
    "shares": [(4, 1), (8, 2), (0, 5), (7, 2), (9, 2)], "even stops": [3, 0], "odd stops": [3, 0, 2],
    "roads": ROADS, "lengths": [4, 0, 5], "shown shares": [(6, 4), (0, 2)], "table text": "3\n5 4", "ring text": "0-2-1-3-4",
    "shares text": "0 3/2 4 1/9 7", "the most": 20,
}
FUNCTIONS = [
    (rings.is_table, ["value"]),
    (rings.is_ring, ["count", "value"]),
    (rings.plain_ring, ["free ring"]),
    (rings.are_alike, ["free ring", "other_ring"]),
    (rings.trip_length, ["table", "trip"]),
    (rings.around, ["free ring", "stops"]),
    (rings.around_length, ["table", "ring", "stops"]),
    (amounts.cuts_of, ["free ring"]),
    (amounts.cut_amounts, ["table", "ring"]),
    (amounts.place_amounts, ["table", "ring"]),
    (amounts.is_skip, ["table", "ring"]),
    (amounts.bar_of, ["table", "ring"]),
    (amounts.is_bar, ["table", "ring", "value"]),
    (amounts.heavy_cuts, ["table", "ring"]),
    (amounts.table_with, ["free ring", "amounts", "cuts"]),
    (finding.shortest_length, ["table"]),
    (finding.has_skip, ["table"]),
    (finding.count_skip, ["table"]),
    (finding.nth_skip, ["table", "index"]),
    (finding.skip_index, ["table", "ring"]),
    (finding.skip_ring, ["table"]),
    (finding.sure_neighbours, ["table"]),
    (finding.possible_neighbours, ["table"]),
    (finding.count_trips, ["table", "stops"]),
    (finding.nth_trip, ["table", "stops", "index"]),
    (finding.common_skip, ["tables"]),
    (far.opposite_pairs, ["free ring", "even stops"]),
    (far.far_trip, ["free ring", "odd stops"]),
    (far.greatest_sum, ["table", "ring", "even stops"]),
    (far.least_sum, ["table", "ring", "even stops"]),
    (far.longest_length, ["table", "ring", "odd stops"]),
    (far.shows_far, ["table", "ring", "stops", "value"]),
    (choosing.cheapest_stops, ["table", "ring", "many"]),
    (choosing.dearest_stops, ["table", "ring", "many"]),
    (choosing.best_prizes, ["table", "ring", "prizes"]),
    (choosing.most_stops, ["table", "ring", "length"]),
    (choosing.adds, ["table", "ring", "stops", "place"]),
    (shares.costs, ["table", "ring", "depot", "group"]),
    (shares.fair_shares, ["table", "ring", "depot"]),
    (shares.shares_by, ["table", "ring", "depot", "sequence"]),
    (shares.bending, ["table", "ring", "depot"]),
    (shares.pays_beyond, ["table", "ring", "depot", "shares"]),
    (shares.limits, ["table", "ring", "depot", "group"]),
    (shares.even_steps, ["table", "ring", "depot"]),
    (changes.slack, ["table", "ring", "one", "other"]),
    (changes.grown, ["table", "row"]),
    (changes.shrunk, ["table", "place"]),
    (changes.ring_without, ["free ring", "place"]),
    (changes.new_spots, ["table", "ring", "row"]),
    (changes.left_out, ["table", "ring"]),
    (sources.tree_table, ["count", "roads"]),
    (sources.walk_ring, ["count", "roads"]),
    (sources.ring_table, ["lengths"]),
    (sources.crossing_cuts, ["table", "ring"]),
    (live.LiveRing, ["table", "ring"]),
    (live.SkipRing, ["table", "ring"]),
    (live.ShortRing, ["table", "ring", "the most"]),
    (live.ShortSkipRing, ["table", "ring", "the most"]),
    (texts.show_table, ["table"]),
    (texts.show_ring, ["free ring"]),
    (texts.show_shares, ["shown shares"]),
    (texts.read_table, ["table text"]),
    (texts.read_ring, ["count", "ring text"]),
    (texts.read_shares, ["count", "shares text"]),
]
# For each method of a live ring with parameters what they are.
METHODS = {"change": ["one", "other", "distance"], "add": ["row", "index"], "drop": ["place"], "turn": ["ring"]}
# Those that want a skip ring.
SKIPS = [far.greatest_sum, far.least_sum, far.longest_length, far.shows_far, choosing.cheapest_stops,
         choosing.dearest_stops, choosing.best_prizes, choosing.most_stops, choosing.adds, shares.costs,
         shares.fair_shares, shares.shares_by, shares.bending, shares.pays_beyond, shares.limits, shares.even_steps,
         changes.slack, changes.new_spots, amounts.heavy_cuts, finding.skip_index, sources.crossing_cuts, live.SkipRing,
         live.ShortSkipRing]
NO_SKIP = [0, 2, 1, 3, 4]


def plain_name(kind):
    return kind.split()[-1]


class Parameters(unittest.TestCase):
    def raised(self, function, arguments):
        """The class of the error that a call raises, exactly."""
        with self.assertRaises(errors.RingError, msg=f"{function.__name__} {arguments}") as caught:
            function(*arguments)
        return type(caught.exception)

    def test_by_position_and_by_name(self):
        for function, kinds in FUNCTIONS:
            with self.subTest(function.__name__):
                names = [plain_name(kind) for kind in kinds]
                self.assertEqual(list(inspect.signature(function).parameters), names)
                by_position = function(*[GOOD[kind] for kind in kinds])
                by_name = function(**{plain_name(kind): GOOD[kind] for kind in reversed(kinds)})
                self.assertEqual(by_position, by_name)

    def test_methods(self):
        for kind, more in ((live.LiveRing, []), (live.SkipRing, []), (live.ShortRing, [99]), (live.ShortSkipRing, [99])):
            for name, kinds in METHODS.items():
                by_position, by_name = kind(FIVE, RING, *more), kind(FIVE, RING, *more)
                given = {**GOOD, "distance": 4, "index": 4}
                self.assertEqual(list(inspect.signature(getattr(by_name, name)).parameters), kinds)
                self.assertIs(getattr(by_position, name)(*[given[one] for one in kinds]), True)
                self.assertIs(getattr(by_name, name)(**{one: given[one] for one in reversed(kinds)}), True)
                self.assertEqual(by_position, by_name)
            tried = inspect.signature(kind(FIVE, RING, *more).tried).parameters
            self.assertEqual([str(one) for one in tried.values()], ["*changes"])
        self.assertEqual(list(inspect.signature(console.Console().execute).parameters), ["command"])
        self.assertEqual(list(inspect.signature(console.Console).parameters), [])

    def test_each_wrong_parameter_alone(self):
        for function, kinds in FUNCTIONS:
            for at, kind in enumerate(kinds):
                for wrong in WRONG.get(kind, []):
                    arguments = [GOOD[kind] for kind in kinds]
                    arguments[at] = wrong
                    with self.subTest(function.__name__, kind=kind, wrong=wrong):
                        self.assertIs(self.raised(function, arguments), ERRORS[kind])

    def test_with_wrong_ones_behind(self):
        for function, kinds in FUNCTIONS:
            for at, kind in enumerate(kinds):
                for wrong in WRONG.get(kind, []):
                    for behind in (None, True, [], [None]):
                        arguments = [GOOD[kind] for kind in kinds[:at]] + [wrong] + [behind] * (len(kinds) - at - 1)
                        with self.subTest(function.__name__, kind=kind, wrong=wrong, behind=behind):
                            self.assertIs(self.raised(function, arguments), ERRORS[kind])

    def test_wrong_parameters_come_ahead_of_not_skip(self):
        for function, kinds in FUNCTIONS:
            if function in SKIPS:
                arguments = [GOOD[kind] for kind in kinds]
                arguments[1] = NO_SKIP
                if "shares" in kinds:
                    # Their sum is to be the length of the trip through all places, also here.
                    arguments[3] = [(4, 1), (8, 2), (0, 5), (7, 2), (17, 2)]
                with self.subTest(function.__name__):
                    self.assertIs(self.raised(function, arguments), errors.NotSkip)
                for at, kind in enumerate(kinds[2:], 2):
                    for wrong in WRONG.get(kind, []):
                        with self.subTest(function.__name__, kind=kind, wrong=wrong):
                            self.assertIs(self.raised(function, arguments[:at] + [wrong] + arguments[at + 1:]), ERRORS[kind])

    def test_any_value_raises_nothing(self):
        values = NO_LISTS + NO_INTEGERS + NO_PLACES + WRONG["table"] + WRONG["cuts"]
        for value in values:
            self.assertIs(rings.is_table(value), False)
            self.assertIs(rings.is_ring(5, value), False)
            self.assertIs(amounts.is_bar(FIVE, [0, 2, 1, 3, 4], value), False)
            self.assertIs(far.shows_far(FIVE, RING, [0, 1], value), False)
            if value != [5]:
                self.assertIs(far.shows_far(FIVE, RING, [0, 1, 2], value), False)

    def test_rings_of_the_wrong_size(self):
        for ring in ([0], [0, 1, 2, 3], [0, 1, 2, 3, 4, 5]):
            self.assertEqual(rings.plain_ring(ring), ring)
            self.assertRaises(errors.InvalidRing, rings.are_alike, RING, ring)
            self.assertRaises(errors.InvalidRing, rings.are_alike, ring, RING)
            self.assertRaises(errors.InvalidRing, rings.around_length, FIVE, ring, [0])
            self.assertRaises(errors.InvalidRing, amounts.is_skip, FIVE, ring)
            self.assertRaises(errors.InvalidRing, finding.skip_index, FIVE, ring)

    def test_stops_that_another_ring_has(self):
        self.assertRaises(errors.InvalidStops, rings.around, [0, 2, 1], [3])
        self.assertEqual(rings.around([0, 2, 1, 3], [3]), [3])
        self.assertRaises(errors.InvalidTrip, rings.trip_length, [[0]], [1])


class OtherErrors(unittest.TestCase):
    """What comes behind the errors of the parameters, in its sequence."""

    def test_not_skip_comes_behind_the_parameters(self):
        self.assertRaises(errors.InvalidTable, amounts.heavy_cuts, [[1]], [0, 2, 1, 3, 4])
        self.assertRaises(errors.InvalidRing, amounts.heavy_cuts, SPLIT, [0, 1, 2, 3])
        self.assertRaises(errors.NotSkip, amounts.heavy_cuts, SPLIT, RING)
        self.assertRaises(errors.NotSkip, finding.skip_index, SPLIT, RING)

    def test_not_skip_then_too_large(self):
        table = zeros(11)
        table[2][7] = table[7][2] = 5
        self.assertRaises(errors.NotSkip, finding.skip_index, table, [2, 7, *[k for k in range(11) if k not in (2, 7)]])
        self.assertRaises(errors.TooLarge, finding.skip_index, zeros(11), list(range(11)))

    def test_indices_too_great_come_last(self):
        self.assertRaises(errors.InvalidIndex, finding.nth_skip, zeros(11), -1)
        self.assertRaises(errors.InvalidIndex, finding.nth_skip, zeros(11), True)
        self.assertRaises(errors.TooLarge, finding.nth_skip, zeros(11), 10 ** 59)
        self.assertRaises(errors.InvalidIndex, finding.nth_skip, FIVE, 2)
        self.assertRaises(errors.InvalidIndex, finding.nth_skip, SPLIT, 0)
        stops = list(range(11))
        self.assertRaises(errors.InvalidIndex, finding.nth_trip, zeros(11), stops, -1)
        self.assertRaises(errors.InvalidIndex, finding.nth_trip, zeros(11), stops, False)
        self.assertRaises(errors.TooLarge, finding.nth_trip, zeros(11), stops, 10 ** 59)
        self.assertRaises(errors.InvalidIndex, finding.nth_trip, FIVE, [4, 2], 1)

    def test_too_large_behind_the_parameters(self):
        self.assertRaises(errors.InvalidTable, finding.shortest_length, zeros(31))
        self.assertRaises(errors.InvalidTables, finding.common_skip, [zeros(11), zeros(12)])
        self.assertRaises(errors.InvalidStops, finding.count_trips, zeros(11), list(range(12)))
        self.assertRaises(errors.InvalidStops, finding.nth_trip, zeros(11), [*range(11), 0], 0)

    def test_not_skip_then_the_others(self):
        self.assertRaises(errors.NotSkip, far.greatest_sum, FIVE, NO_SKIP, [0])
        self.assertRaises(errors.NotSkip, far.least_sum, FIVE, NO_SKIP, [0])
        self.assertRaises(errors.NotSkip, far.longest_length, FIVE, NO_SKIP, [0, 1])
        self.assertRaises(errors.OddStops, far.greatest_sum, FIVE, RING, [0])
        self.assertRaises(errors.InvalidStops, far.opposite_pairs, RING, [0, 1, 5])
        self.assertRaises(errors.InvalidStops, far.far_trip, RING, [0, 5])
        bad = zeros(30)
        bad[0][1] = bad[1][0] = 1
        self.assertRaises(errors.NotSkip, changes.new_spots, bad, list(range(30)), [0] * 30)
        self.assertRaises(errors.TooLarge, changes.new_spots, zeros(30), list(range(30)), [0] * 30)

    def test_last_place_comes_behind_the_place(self):
        self.assertRaises(errors.InvalidPlace, changes.shrunk, [[0]], 1)
        self.assertRaises(errors.InvalidPlace, changes.ring_without, [0], False)
        self.assertRaises(errors.LastPlace, changes.shrunk, [[0]], 0)
        self.assertRaises(errors.LastPlace, changes.ring_without, [0], 0)

    def test_no_table_comes_last(self):
        self.assertRaises(errors.InvalidCuts, amounts.table_with, RING, [1, 0, 0, 0, 0], [((1, 3), 2)])
        self.assertRaises(errors.InvalidAmounts, amounts.table_with, [0], [1, 1], [])
        self.assertRaises(errors.InvalidCuts, amounts.table_with, [0, 1], [1, 2], [((1,), 2)])
        self.assertRaises(errors.InvalidCuts, amounts.table_with, [0, 1, 2], [2, 2, 2], [((1, 2), 2)])
        self.assertRaises(errors.NoTable, amounts.table_with, RING, [1, 0, 0, 0, 0], [((1, 2), 2)])

    def test_words_of_errors(self):
        with self.assertRaises(errors.InvalidTable) as caught:
            rings.trip_length(None, None)
        self.assertTrue(str(caught.exception))
        with self.assertRaises(errors.TooLarge) as caught:
            finding.skip_ring(zeros(11))
        self.assertEqual(caught.exception.limit, 10)


if __name__ == "__main__":
    unittest.main()
