"""[10], [18]: all skip rings of a table, and all shortest trips."""

import unittest
from itertools import combinations, product

from skipstops.amounts import cuts_of, heavy_cuts, is_skip
from skipstops.errors import InvalidIndex, NoSkipRing, NotSkip, TooLarge
from skipstops.finding import common_skip, count_skip, count_trips, has_skip, nth_skip, nth_trip, possible_neighbours
from skipstops.finding import shortest_length, skip_index, skip_ring, sure_neighbours
from tests.tools import FIVE, GREATEST, Numbers, RING, SPLIT, any_table, bars_by_words, beside, closed_length
from tests.tools import drawn_tables, exact, plain_rings, rings_by_words, shortest_by_words, sided_table, skip_table, zeros

HALF_OF_9 = 181440


class AllSkipRings(unittest.TestCase):
    def check(self, table):
        rings = rings_by_words(table)
        self.assertIs(has_skip(table), bool(rings))
        self.assertEqual(count_skip(table), len(rings))
        self.assertEqual(skip_ring(table), rings[0] if rings else None)
        self.assertEqual([nth_skip(table, index) for index in range(len(rings))], rings)
        self.assertEqual([skip_index(table, ring) for ring in rings], list(range(len(rings))))
        for index in (len(rings), len(rings) + 1, 10 ** 59):
            self.assertRaises(InvalidIndex, nth_skip, table, index)
        if not rings:
            self.assertRaises(NoSkipRing, sure_neighbours, table)
            self.assertRaises(NoSkipRing, possible_neighbours, table)
            return
        sides = [beside(ring) for ring in rings]
        self.assertEqual(exact(sure_neighbours(table)), exact(sorted(set.intersection(*sides))))
        self.assertEqual(exact(possible_neighbours(table)), exact(sorted(set.union(*sides))))
        shortest = shortest_by_words(table, range(len(table)))
        self.assertEqual(shortest, rings)
        heavy = [cut for cut, _ in heavy_cuts(table, rings[0])]
        having = [ring for ring in plain_rings(len(table)) if not set(heavy) - set(cuts_of(ring))]
        self.assertEqual(having, rings)

    def test_drawn_tables(self):
        for table in drawn_tables(21, range(1, 7), 4):
            self.check(table)

    def test_named_tables(self):
        for table in (FIVE, SPLIT, zeros(1), zeros(2), zeros(3), zeros(4), zeros(6), [[0, 9], [9, 0]]):
            self.check(table)

    def check_rings(self, table, rings):
        """All answers, by the list of all plain skip rings."""
        numbers = Numbers(len(rings))
        self.assertEqual([has_skip(table), count_skip(table)], [bool(rings), len(rings)])
        self.assertEqual(skip_ring(table), rings[0] if rings else None)
        for index in numbers.mixed(range(len(rings)))[:20]:
            self.assertEqual(nth_skip(table, index), rings[index])
            begun = numbers.below(len(table))
            alike = rings[index][begun:] + rings[index][:begun]
            self.assertEqual(skip_index(table, alike[::1 - 2 * numbers.below(2)]), index)
        if rings:
            sides = [beside(ring) for ring in rings]
            self.assertEqual(sure_neighbours(table), sorted(set.intersection(*sides)))
            self.assertEqual(possible_neighbours(table), sorted(set.union(*sides)))

    def test_tables_of_few_sides(self):
        numbers = Numbers(35)
        found = {True: 0, False: 0}
        for count in (4, 5, 6, 7):
            for many in range(7):
                for flaws in (0, 1, 0, 2):
                    table = sided_table(numbers, count, many, flaws)
                    rings = [ring for ring in plain_rings(count) if not bars_by_words(table, ring)]
                    found[bool(rings)] += 1
                    self.check_rings(table, rings)
        self.assertGreater(min(found.values()), 15)

    def test_all_tables_of_small_distances(self):
        for count, limit in ((4, 4), (5, 2)):
            pairs = list(combinations(range(count), 2))
            rings = plain_rings(count)
            for drawn in product(range(limit), repeat=len(pairs)):
                table = zeros(count)
                for (one, other), distance in zip(pairs, drawn):
                    table[one][other] = table[other][one] = distance
                found = [ring for ring in rings if is_skip(table, ring)]
                self.assertEqual(count_skip(table), len(found))
                self.assertEqual(skip_ring(table), found[0] if found else None)

    def test_eight_to_ten_places_of_few_sides(self):
        numbers = Numbers(36)
        for count in (8, 9, 10):
            for many in range(9):
                table = sided_table(numbers, count, many)
                rings = count_skip(table)
                self.assertGreater(rings, 0)
                indices = sorted({0, rings - 1, rings // 2, rings // 3, numbers.below(rings)})
                told = [nth_skip(table, index) for index in indices]
                self.assertEqual(told, sorted(told))
                self.assertTrue(all(is_skip(table, ring) for ring in told))
                self.assertEqual([skip_index(table, ring[3:] + ring[:3]) for ring in told], indices)
                self.assertRaises(InvalidIndex, nth_skip, table, rings)
                # The shortest rings are found in another way if one distance bars them all.
                table[0][1] = table[1][0] = table[0][1] + 1
                if not has_skip(table) and count == 8:
                    self.assertEqual(shortest_length(table), min(closed_length(table, ring) for ring in plain_rings(8)))

    def test_few_places(self):
        self.assertEqual([sure_neighbours([[0]]), possible_neighbours([[0]]), skip_ring([[0]])], [[], [], [0]])
        pair = [[0, 4], [4, 0]]
        self.assertEqual([sure_neighbours(pair), possible_neighbours(pair)], [[(0, 1)], [(0, 1)]])
        self.assertEqual([shortest_length(pair), count_skip(pair), nth_skip(pair, 0)], [8, 1, [0, 1]])
        three = [[0, 1, 9], [1, 0, 3], [9, 3, 0]]
        self.assertEqual(sure_neighbours(three), [(0, 1), (0, 2), (1, 2)])
        self.assertEqual([shortest_length(three), count_skip(three), skip_index(three, [1, 0, 2])], [13, 1, 0])

    def test_index_of_alike_rings(self):
        for ring in ([0, 3, 2, 1, 4], [3, 2, 1, 4, 0], [4, 1, 2, 3, 0], [2, 3, 0, 4, 1]):
            self.assertEqual(skip_index(FIVE, ring), 1)
        self.assertRaises(NotSkip, skip_index, FIVE, [0, 2, 1, 3, 4])

    def test_ten_places_with_zeros(self):
        table = zeros(10)
        self.assertEqual([shortest_length(table), has_skip(table), count_skip(table)], [0, True, HALF_OF_9])
        self.assertEqual(nth_skip(table, 0), list(range(10)))
        self.assertEqual(nth_skip(table, 1), [0, 1, 2, 3, 4, 5, 6, 7, 9, 8])
        last = [0, 8, 7, 6, 5, 4, 3, 2, 1, 9]
        self.assertEqual(nth_skip(table, HALF_OF_9 - 1), last)
        self.assertEqual(skip_index(table, last[4:] + last[:4]), HALF_OF_9 - 1)
        self.assertRaises(InvalidIndex, nth_skip, table, HALF_OF_9)
        self.assertEqual(sure_neighbours(table), [])
        self.assertEqual(possible_neighbours(table), list(combinations(range(10), 2)))
        for index in (7, 999, 100000, 150000):
            self.assertEqual(skip_index(table, nth_skip(table, index)), index)

    def test_ten_places_with_one_ring(self):
        ring = Numbers(22).mixed(range(10))
        table = skip_table(Numbers(23), ring, 300)
        self.assertEqual(count_skip(table), 1)
        self.assertEqual(skip_index(table, ring), 0)
        self.assertEqual(sure_neighbours(table), sorted(beside(ring)))
        self.assertEqual(possible_neighbours(table), sorted(beside(ring)))

    def test_seven_to_ten_places(self):
        numbers = Numbers(24)
        for count in (7, 8, 9, 10):
            table = skip_table(numbers, numbers.mixed(range(count)), 5)
            many = count_skip(table)
            rings = [nth_skip(table, index) for index in range(min(many, 12))]
            self.assertEqual(rings, sorted(rings))
            self.assertTrue(all(is_skip(table, ring) for ring in rings))
            heavy = {cut for cut, _ in heavy_cuts(table, rings[0])}
            if count < 10:
                having = [ring for ring in plain_rings(count) if not heavy - set(cuts_of(ring))]
                self.assertEqual([many, rings], [len(having), having[:12]])

    def test_great_distances(self):
        table = [[0 if one == other else GREATEST for other in range(10)] for one in range(10)]
        self.assertEqual([shortest_length(table), count_skip(table)], [10 * GREATEST, HALF_OF_9])
        table[3][5] = table[5][3] = GREATEST - 1
        self.assertEqual([shortest_length(table), count_skip(table)], [10 * GREATEST - 1, HALF_OF_9 * 2 // 9])
        self.assertEqual([sure_neighbours(table), skip_ring(table)], [[(3, 5)], [0, 1, 2, 3, 5, 4, 6, 7, 8, 9]])


class TooManyPlaces(unittest.TestCase):
    def check(self, function, *arguments):
        with self.assertRaises(TooLarge) as caught:
            function(*arguments)
        self.assertEqual(caught.exception.limit, 10)

    def test_eleven_and_thirty(self):
        for count in (11, 30):
            table = zeros(count)
            for function in (shortest_length, has_skip, count_skip, skip_ring, sure_neighbours, possible_neighbours):
                self.check(function, table)
            self.check(nth_skip, table, 0)
            self.check(nth_skip, table, 10 ** 59)
            self.check(skip_index, table, list(range(count)))
            self.check(count_trips, table, list(range(11)))
            self.check(nth_trip, table, list(range(11)), 0)
            self.check(nth_trip, table, list(range(11)), 10 ** 59)
            self.check(common_skip, [table])
            self.check(common_skip, [table] * 6)

    def test_without_skip_ring(self):
        table = zeros(11)
        for one, other in combinations(range(11), 2):
            table[one][other] = table[other][one] = 2 if (one < 2) == (other < 2) else 1
        self.check(sure_neighbours, table)
        self.check(possible_neighbours, table)
        self.assertRaises(NotSkip, skip_index, table, list(range(11)))

    def test_ten_stops_of_thirty(self):
        table = zeros(30)
        stops = list(range(29, 9, -2))
        self.assertEqual(count_trips(table, stops), HALF_OF_9)
        self.assertEqual(nth_trip(table, stops, 0), sorted(stops))


class ShortestTrips(unittest.TestCase):
    def test_lengths(self):
        for table in drawn_tables(25, range(1, 8), 3):
            trip = shortest_by_words(table, range(len(table)))[0]
            steps = [table[trip[at - 1]][trip[at]] for at in range(len(trip))]
            self.assertEqual(shortest_length(table), sum(steps))

    def test_trips_of_some_stops(self):
        numbers = Numbers(26)
        for table in drawn_tables(27, (4, 6, 9), 2):
            for size in range(1, min(len(table), 6) + 1):
                stops = numbers.mixed(range(len(table)))[:size]
                trips = shortest_by_words(table, stops)
                self.assertEqual(count_trips(table, stops), len(trips))
                self.assertEqual([nth_trip(table, stops, index) for index in range(len(trips))], trips)
                for index in (len(trips), 10 ** 59):
                    self.assertRaises(InvalidIndex, nth_trip, table, stops, index)

    def test_trips_of_tables_of_few_sides(self):
        numbers = Numbers(37)
        found = {True: 0, False: 0}
        for size in (4, 5, 6, 7):
            for flaws in (0, 1, 1, 2):
                table = sided_table(numbers, size + 2, 5, flaws)
                stops = numbers.mixed(range(size + 2))[:size]
                trips = shortest_by_words(table, stops)
                found[has_skip([[table[one][other] for other in stops] for one in stops])] += 1
                self.assertEqual(count_trips(table, stops), len(trips))
                for index in numbers.mixed(range(len(trips)))[:20]:
                    self.assertEqual(nth_trip(table, stops, index), trips[index])
        self.assertGreater(min(found.values()), 2)

    def test_ten_places_without_skip_ring(self):
        # Both 0 and 1 are near to all others, and these are far from each other: 0 and 1 stand apart.
        table = [[0 if one == other else 2 for other in range(10)] for one in range(10)]
        for near in (0, 1):
            for other in range(2, 10):
                table[near][other] = table[other][near] = 1
        stops = list(range(10))
        self.assertIs(has_skip(table), False)
        self.assertEqual([shortest_length(table), skip_ring(table)], [16, None])
        many = count_trips(table, stops)
        self.assertEqual(many, HALF_OF_9 - HALF_OF_9 * 2 // 9)
        told = [nth_trip(table, stops, index) for index in (0, 1, many // 2, many - 1)]
        self.assertEqual(told, sorted(told))
        self.assertTrue(all(closed_length(table, trip) == 16 for trip in told))
        self.assertEqual(told[0], [0, 2, 1, 3, 4, 5, 6, 7, 8, 9])
        self.assertRaises(InvalidIndex, nth_trip, table, stops, many)

    def test_without_skip_ring(self):
        self.assertEqual(count_trips(SPLIT, [4, 1, 0, 2, 3]), 6)
        trips = [nth_trip(SPLIT, RING, index) for index in range(6)]
        self.assertEqual(trips, shortest_by_words(SPLIT, RING))

    def test_few_stops(self):
        table = any_table(Numbers(28), 30, 9)
        self.assertEqual([count_trips(table, [29]), nth_trip(table, [29], 0)], [1, [29]])
        self.assertEqual([count_trips(table, [29, 3]), nth_trip(table, [29, 3], 0)], [1, [3, 29]])
        self.assertEqual([count_trips(table, [7, 29, 3]), nth_trip(table, [7, 29, 3], 0)], [1, [3, 7, 29]])
        for stops in ([29], [29, 3], [7, 29, 3]):
            self.assertRaises(InvalidIndex, nth_trip, table, stops, 1)


class Common(unittest.TestCase):
    def by_words(self, tables):
        found = [rings_by_words(table) for table in tables]
        return next((ring for ring in found[0] if all(ring in rings for rings in found)), None)

    def test_drawn_tables(self):
        numbers = Numbers(29)
        none = some = 0
        for count in (1, 2, 3, 4, 5, 6):
            for many in (1, 2, 3, 6):
                for _ in range(3):
                    tables = [skip_table(numbers, numbers.mixed(range(count)), 1 + many % 2) for _ in range(many)]
                    ring = self.by_words(tables)
                    none += ring is None
                    some += ring is not None
                    self.assertEqual(common_skip(tables), ring)
        self.assertGreater(min(none, some), 10)

    def test_one_without_skip_ring(self):
        self.assertIsNone(common_skip([SPLIT]))
        self.assertIsNone(common_skip([zeros(5), SPLIT]))

    def test_tables_that_make_up_for_each_other(self):
        # The sum of both has a skip ring, but the second one has none.
        heavy = [[20 * distance for distance in row] for row in FIVE]
        added = [[heavy[one][other] + SPLIT[one][other] for other in RING] for one in RING]
        self.assertIsNone(common_skip([heavy, SPLIT]))
        self.assertEqual(common_skip([added]), self.by_words([added]))

    def test_ten_places(self):
        ring = Numbers(30).mixed(range(10))
        tables = [skip_table(Numbers(31 + k), ring, 6) for k in range(6)]
        found = common_skip(tables)
        self.assertTrue(all(is_skip(table, found) for table in tables))
        self.assertLessEqual(found, nth_skip(tables[0], skip_index(tables[0], ring)))
        great = [[0 if one == other else GREATEST for other in range(10)] for one in range(10)]
        self.assertEqual(common_skip([great] * 6), list(range(10)))
        self.assertEqual(common_skip([tables[0], great]), skip_ring(tables[0]))


if __name__ == "__main__":
    unittest.main()
