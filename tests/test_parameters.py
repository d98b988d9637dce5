"""[2], [3]: which error a wrong parameter raises, and that the first wrong one raises it."""

import inspect
import unittest

from skipstops import amounts, errors, finding, rings
from tests.tools import FIVE, GREATEST, RING, SPLIT, zeros

NO_LISTS = [None, True, False, 0, 1, -1, "", "01234", b"01234", (), {}, {0: 0}, set(), object()]
NO_INTEGERS = [None, True, False, "", "0", "1", b"1", (), (1,), [], [1], {}, {1}, object()]
NO_PLACES = [[], [True], [False], [0, True], [5], [-1], [0, 0], [1, 2, 1], [0, 10 ** 59], [None], ["0"], [[0, 1]], [(0,)],
             [0, 1, 2, 3, 4, 5], [0, 1, 2, 3, 4, 4]]
BEYOND = GREATEST + 1

WRONG = {
    "count": NO_INTEGERS + [0, -1, 31, 10 ** 59, -10 ** 59],
    "table": NO_LISTS + [[], [[]], [[1]], [[False]], [[0], [0]], [[0, 1], [2, 0]], [(0,)], ([0],), [[0, True], [1, 0]],
                         [[0, -1], [-1, 0]], [[0, BEYOND], [BEYOND, 0]], zeros(31), [None], [[0, 1], [1, 1]]],
    "tables": NO_LISTS + [[], [None], [FIVE, None], [FIVE, [[0]]], [[[0]], FIVE], [FIVE] * 7, (FIVE,), FIVE, [[[1]]],
                          [FIVE, FIVE, [[0, True], [True, 0]]], [[]], [zeros(31)]],
    "ring": NO_LISTS + NO_PLACES + [tuple(RING), [0, 1, 2, 3], [1, 2, 3, 4, 5], [0, True, 2, 3, 4], [False, 1, 2, 3, 4]],
    "stops": NO_LISTS + NO_PLACES + [(0, 1), {0, 1}, "01"],
    "trip": NO_LISTS + NO_PLACES + [(0, 1), {0, 1}, "01"],
    "index": NO_INTEGERS + [-1, -10 ** 59],
    "amounts": NO_LISTS + [[], [2] * 4, [2] * 6, [2, 2, 2, 2, True], [2, 2, 2, 2, None], ["2"] * 5, (2,) * 5],
    "cuts": NO_LISTS[:9] + [((1, 2), 2), [None], [()], [((1, 2),)], [((1, 2), 2, 2)], [[(1, 2), 2]], [([1, 2], 2)],
                            [((1, 2), True)], [((1, 2), None)], [((1, 2), "2")], [((True, 2), 2)], [((2, 1), 2)],
                            [((1, 3), 2)], [((0, 1), 2)], [((3, 4, 0), 2)], [((1,), 2)], [((), 2)], [((1, 5), 2)],
                            [((1, 2, 3, 4), 2)], [((2, 3), 2), ((1, 2), 2)], [((1, 2), 2), ((1, 2), 2)], [(None, 2)],
                            [(([1], 2), 2)], [((1, 2), 2), ((1, 2), 4)], [((1, 2), 2), None], [12], [(12, 2)], {}, set()],
}
# A ring that no parameter stands ahead of may have any number of places from 1 to 30.
WRONG["free ring"] = [value for value in WRONG["ring"] if value not in ([0, 1, 2, 3], [0, 1, 2, 3, 4, 5])]
WRONG["free ring"] += [list(range(31)), [1, 2, 3], [0, 2]]
WRONG["other_ring"] = WRONG["ring"]
ERRORS = {
    "count": errors.InvalidCount, "table": errors.InvalidTable, "tables": errors.InvalidTables,
    "ring": errors.InvalidRing, "free ring": errors.InvalidRing, "other_ring": errors.InvalidRing,
    "stops": errors.InvalidStops, "trip": errors.InvalidTrip, "index": errors.InvalidIndex,
    "amounts": errors.InvalidAmounts, "cuts": errors.InvalidCuts,
}
GOOD = {
    "count": 5, "table": FIVE, "tables": [FIVE, FIVE], "ring": RING, "free ring": RING, "other_ring": [3, 1, 2, 0, 4],
    "stops": [3, 0], "trip": [3, 0], "index": 0, "amounts": [2] * 5, "cuts": [((1, 2), 2)], "value": RING,
}
FUNCTIONS = [
    (rings.is_table, ["value"]),
    (rings.is_ring, ["count", "value"]),
    (rings.plain_ring, ["free ring"]),
    (rings.are_alike, ["free ring", "other_ring"]),
    (rings.trip_length, ["table", "trip"]),
    (rings.around, ["free ring", "stops"]),
    (rings.around_length, ["table", "ring", "stops"]),
    (amounts.cuts_of, ["free ring"]),
    (amounts.cut_amounts, ["table", "ring"]),
    (amounts.place_amounts, ["table", "ring"]),
    (amounts.is_skip, ["table", "ring"]),
    (amounts.bar_of, ["table", "ring"]),
    (amounts.is_bar, ["table", "ring", "value"]),
    (amounts.heavy_cuts, ["table", "ring"]),
    (amounts.table_with, ["free ring", "amounts", "cuts"]),
    (finding.shortest_length, ["table"]),
    (finding.has_skip, ["table"]),
    (finding.count_skip, ["table"]),
    (finding.nth_skip, ["table", "index"]),
    (finding.skip_index, ["table", "ring"]),
    (finding.skip_ring, ["table"]),
    (finding.sure_neighbours, ["table"]),
    (finding.possible_neighbours, ["table"]),
    (finding.count_trips, ["table", "stops"]),
    (finding.nth_trip, ["table", "stops", "index"]),
    (finding.common_skip, ["tables"]),
]


def plain_name(kind):
    return kind.split()[-1]


class Parameters(unittest.TestCase):
    def raised(self, function, arguments):
        """The class of the error that a call raises, exactly."""
        with self.assertRaises(errors.RingError, msg=f"{function.__name__} {arguments}") as caught:
            function(*arguments)
        return type(caught.exception)

    def test_by_position_and_by_name(self):
        for function, kinds in FUNCTIONS:
            with self.subTest(function.__name__):
                names = [plain_name(kind) for kind in kinds]
                self.assertEqual(list(inspect.signature(function).parameters), names)
                by_position = function(*[GOOD[kind] for kind in kinds])
                by_name = function(**{plain_name(kind): GOOD[kind] for kind in reversed(kinds)})
                self.assertEqual(by_position, by_name)

    def test_each_wrong_parameter_alone(self):
        for function, kinds in FUNCTIONS:
            for at, kind in enumerate(kinds):
                for wrong in WRONG.get(kind, []):
                    arguments = [GOOD[kind] for kind in kinds]
                    arguments[at] = wrong
                    with self.subTest(function.__name__, kind=kind, wrong=wrong):
                        self.assertIs(self.raised(function, arguments), ERRORS[kind])

    def test_with_wrong_ones_behind(self):
        for function, kinds in FUNCTIONS:
            for at, kind in enumerate(kinds):
                for wrong in WRONG.get(kind, []):
                    for behind in (None, True, [], [None]):
                        arguments = [GOOD[kind] for kind in kinds[:at]] + [wrong] + [behind] * (len(kinds) - at - 1)
                        with self.subTest(function.__name__, kind=kind, wrong=wrong, behind=behind):
                            self.assertIs(self.raised(function, arguments), ERRORS[kind])

    def test_any_value_raises_nothing(self):
        values = NO_LISTS + NO_INTEGERS + NO_PLACES + WRONG["table"] + WRONG["cuts"]
        for value in values:
            self.assertIs(rings.is_table(value), False)
            self.assertIs(rings.is_ring(5, value), False)
            self.assertIs(amounts.is_bar(FIVE, [0, 2, 1, 3, 4], value), False)

    def test_rings_of_the_wrong_size(self):
        for ring in ([0], [0, 1, 2, 3], [0, 1, 2, 3, 4, 5]):
            self.assertEqual(rings.plain_ring(ring), ring)
            self.assertRaises(errors.InvalidRing, rings.are_alike, RING, ring)
            self.assertRaises(errors.InvalidRing, rings.are_alike, ring, RING)
            self.assertRaises(errors.InvalidRing, rings.around_length, FIVE, ring, [0])
            self.assertRaises(errors.InvalidRing, amounts.is_skip, FIVE, ring)
            self.assertRaises(errors.InvalidRing, finding.skip_index, FIVE, ring)

    def test_stops_that_another_ring_has(self):
        self.assertRaises(errors.InvalidStops, rings.around, [0, 2, 1], [3])
        self.assertEqual(rings.around([0, 2, 1, 3], [3]), [3])
        self.assertRaises(errors.InvalidTrip, rings.trip_length, [[0]], [1])


class OtherErrors(unittest.TestCase):
    """What comes behind the errors of the parameters, in its sequence."""

    def test_not_skip_comes_behind_the_parameters(self):
        self.assertRaises(errors.InvalidTable, amounts.heavy_cuts, [[1]], [0, 2, 1, 3, 4])
        self.assertRaises(errors.InvalidRing, amounts.heavy_cuts, SPLIT, [0, 1, 2, 3])
        self.assertRaises(errors.NotSkip, amounts.heavy_cuts, SPLIT, RING)
        self.assertRaises(errors.NotSkip, finding.skip_index, SPLIT, RING)

    def test_not_skip_then_too_large(self):
        table = zeros(11)
        table[2][7] = table[7][2] = 5
        self.assertRaises(errors.NotSkip, finding.skip_index, table, [2, 7, *[k for k in range(11) if k not in (2, 7)]])
        self.assertRaises(errors.TooLarge, finding.skip_index, zeros(11), list(range(11)))

    def test_indices_too_great_come_last(self):
        self.assertRaises(errors.InvalidIndex, finding.nth_skip, zeros(11), -1)
        self.assertRaises(errors.InvalidIndex, finding.nth_skip, zeros(11), True)
        self.assertRaises(errors.TooLarge, finding.nth_skip, zeros(11), 10 ** 59)
        self.assertRaises(errors.InvalidIndex, finding.nth_skip, FIVE, 2)
        self.assertRaises(errors.InvalidIndex, finding.nth_skip, SPLIT, 0)
        stops = list(range(11))
        self.assertRaises(errors.InvalidIndex, finding.nth_trip, zeros(11), stops, -1)
        self.assertRaises(errors.InvalidIndex, finding.nth_trip, zeros(11), stops, False)
        self.assertRaises(errors.TooLarge, finding.nth_trip, zeros(11), stops, 10 ** 59)
        self.assertRaises(errors.InvalidIndex, finding.nth_trip, FIVE, [4, 2], 1)

    def test_too_large_behind_the_parameters(self):
        self.assertRaises(errors.InvalidTable, finding.shortest_length, zeros(31))
        self.assertRaises(errors.InvalidTables, finding.common_skip, [zeros(11), zeros(12)])
        self.assertRaises(errors.InvalidStops, finding.count_trips, zeros(11), list(range(12)))
        self.assertRaises(errors.InvalidStops, finding.nth_trip, zeros(11), [*range(11), 0], 0)

    def test_no_table_comes_last(self):
        self.assertRaises(errors.InvalidCuts, amounts.table_with, RING, [1, 0, 0, 0, 0], [((1, 3), 2)])
        self.assertRaises(errors.InvalidAmounts, amounts.table_with, [0], [1, 1], [])
        self.assertRaises(errors.InvalidCuts, amounts.table_with, [0, 1], [1, 2], [((1,), 2)])
        self.assertRaises(errors.InvalidCuts, amounts.table_with, [0, 1, 2], [2, 2, 2], [((1, 2), 2)])
        self.assertRaises(errors.NoTable, amounts.table_with, RING, [1, 0, 0, 0, 0], [((1, 2), 2)])

    def test_words_of_errors(self):
        with self.assertRaises(errors.InvalidTable) as caught:
            rings.trip_length(None, None)
        self.assertTrue(str(caught.exception))
        with self.assertRaises(errors.TooLarge) as caught:
            finding.skip_ring(zeros(11))
        self.assertEqual(caught.exception.limit, 10)


if __name__ == "__main__":
    unittest.main()
