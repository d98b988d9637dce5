"""[11], [19]: pairs and trips that are far, near or longest."""

import unittest

from skipstops.errors import EvenStops, NotSkip, OddStops
from skipstops.far import far_trip, greatest_sum, least_sum, longest_length, opposite_pairs, shows_far
from skipstops.trips import plain_trip
from tests.tools import FIVE, GREATEST, Numbers, RING, SPLIT, closed_length, exact, in_ring_sequence, plain_trips
from tests.tools import skip_pairs, skip_table, subsets, zeros


def all_pairs(stops):
    """All lists of pairs of an even number of stops, each ascending."""
    if not stops:
        return [[]]
    first, *others = sorted(stops)
    found = []
    for other in others:
        left = [one for one in others if one != other]
        found += [[(first, other), *rest] for rest in all_pairs(left)]
    return found


def sum_of(table, pairs):
    return sum(table[one][other] for one, other in pairs)


def even_sets(table):
    return [stops for stops in subsets(range(len(table))) if stops and len(stops) % 2 == 0]


def odd_sets(table):
    return [stops for stops in subsets(range(len(table))) if len(stops) % 2 == 1]


class Pairs(unittest.TestCase):
    def test_sums_by_words(self):
        numbers = Numbers(41)
        for table, ring in skip_pairs(40, range(2, 8), 3):
            for stops in even_sets(table):
                sums = [sum_of(table, pairs) for pairs in all_pairs(stops)]
                mixed = numbers.mixed(stops)
                self.assertEqual(greatest_sum(table, ring, mixed), max(sums))
                self.assertEqual(least_sum(table, ring, mixed), min(sums))
                self.assertEqual(sum_of(table, opposite_pairs(ring, mixed)), max(sums))

    def test_opposite_pairs_by_words(self):
        numbers = Numbers(42)
        for count in range(2, 9):
            ring = numbers.mixed(range(count))
            for stops in even_sets(zeros(count)):
                row = in_ring_sequence(ring, stops)
                half = len(row) // 2
                wanted = sorted(tuple(sorted((row[at], row[at + half]))) for at in range(half))
                self.assertEqual(exact(opposite_pairs(ring, numbers.mixed(stops))), exact(wanted))

    def test_two_stops(self):
        self.assertEqual(opposite_pairs([2, 0, 1], [2, 0]), [(0, 2)])
        self.assertEqual([greatest_sum(FIVE, RING, [4, 2]), least_sum(FIVE, RING, [4, 2])], [5, 5])

    def test_odd_stops(self):
        for stops in ([0], [0, 2, 1], RING):
            self.assertRaises(OddStops, opposite_pairs, RING, stops)
            self.assertRaises(OddStops, greatest_sum, FIVE, RING, stops)
            self.assertRaises(OddStops, least_sum, FIVE, RING, stops)
            self.assertRaises(NotSkip, greatest_sum, SPLIT, RING, stops)
            self.assertRaises(NotSkip, least_sum, SPLIT, RING, stops)
        self.assertRaises(NotSkip, greatest_sum, SPLIT, RING, [0, 1])
        self.assertRaises(NotSkip, least_sum, SPLIT, RING, [0, 1])

    def test_pairs_inside_of_pairs(self):
        # The pairs with the least sum are not always neighbours: (0, 3) goes round (1, 2), and not round (4, 5).
        ring = list(range(6))
        table = zeros(6)
        for one, other, distance in [(0, 1, 8), (0, 2, 8), (0, 4, 8), (0, 5, 8), (3, 1, 8), (3, 2, 8), (3, 4, 8),
                                     (3, 5, 8), (1, 4, 16), (1, 5, 16), (2, 4, 16), (2, 5, 16)]:
            table[one][other] = table[other][one] = distance
        self.assertEqual([least_sum(table, ring, ring), sum_of(table, [(0, 3), (1, 2), (4, 5)])], [0, 0])
        self.assertEqual(greatest_sum(table, ring, ring), 32)

    def test_thirty_places(self):
        numbers = Numbers(43)
        ring = numbers.mixed(range(30))
        table = skip_table(numbers, ring, 80)
        pairs = opposite_pairs(ring, ring)
        self.assertEqual(len(pairs), 15)
        self.assertEqual(greatest_sum(table, ring, ring[:28]), sum_of(table, opposite_pairs(ring, ring[:28])))
        neighbours = [sum(table[ring[at + k - 1]][ring[at + k]] for at in range(0, 30, 2)) for k in (0, 1)]
        self.assertLessEqual(least_sum(table, ring, ring), min(neighbours))
        for _ in range(50):
            row = numbers.mixed(ring)
            drawn = sum(table[row[at]][row[at + 1]] for at in range(0, 30, 2))
            self.assertLessEqual(least_sum(table, ring, row), drawn)
            self.assertGreaterEqual(greatest_sum(table, ring, row), drawn)
        great = [[0 if one == other else GREATEST for other in range(30)] for one in range(30)]
        self.assertEqual([least_sum(great, ring, ring), greatest_sum(great, ring, ring)], [15 * GREATEST] * 2)


class Trips(unittest.TestCase):
    def test_lengths_by_words(self):
        numbers = Numbers(45)
        for table, ring in skip_pairs(44, range(1, 7), 3):
            for stops in odd_sets(table):
                longest = max(closed_length(table, trip) for trip in plain_trips(stops))
                mixed = numbers.mixed(stops)
                self.assertEqual(longest_length(table, ring, mixed), longest)
                self.assertEqual(closed_length(table, far_trip(ring, mixed)), longest)

    def test_seven_stops(self):
        for table, ring in skip_pairs(46, [8], 2):
            stops = ring[:4] + ring[5:]
            longest = max(closed_length(table, trip) for trip in plain_trips(stops))
            self.assertEqual(longest_length(table, ring, stops), longest)

    def test_trips_by_words(self):
        numbers = Numbers(47)
        for count in range(1, 10):
            ring = numbers.mixed(range(count))
            for stops in odd_sets(zeros(count)):
                row = in_ring_sequence(ring, stops)
                half = len(row) // 2
                trip = [row[0]]
                while len(trip) < len(row):
                    trip.append(row[(row.index(trip[-1]) + half) % len(row)])
                self.assertEqual(exact(far_trip(ring, numbers.mixed(stops))), exact(plain_trip(trip)))

    def test_few_stops(self):
        self.assertEqual([far_trip([0], [0]), far_trip(RING, [3]), longest_length(FIVE, RING, [3])], [[0], [3], 0])
        self.assertEqual([far_trip([3, 1, 0, 2], [2, 1, 3]), longest_length(FIVE, RING, [4, 0, 2])], [[1, 2, 3], 12])

    def test_even_stops(self):
        for stops in ([0, 2], [0, 2, 1, 4]):
            self.assertRaises(EvenStops, far_trip, RING, stops)
            self.assertRaises(EvenStops, longest_length, FIVE, RING, stops)
            self.assertRaises(NotSkip, longest_length, SPLIT, RING, stops)
        self.assertRaises(NotSkip, longest_length, SPLIT, RING, [0])

    def test_thirty_places(self):
        numbers = Numbers(48)
        ring = numbers.mixed(range(30))
        table = skip_table(numbers, ring, 80)
        longest = longest_length(table, ring, ring[:29])
        self.assertEqual(closed_length(table, far_trip(ring, ring[:29])), longest)
        for _ in range(50):
            self.assertGreaterEqual(longest, closed_length(table, numbers.mixed(ring[:29])))


class Shows(unittest.TestCase):
    def test_pairs_by_words(self):
        numbers = Numbers(52)
        for table, ring in skip_pairs(49, (2, 4, 5, 6), 2):
            for stops in even_sets(table):
                found = all_pairs(stops)
                most = max(sum_of(table, pairs) for pairs in found)
                for pairs in found:
                    shows = sum_of(table, pairs) == most
                    self.assertIs(shows_far(table, ring, numbers.mixed(stops), pairs), shows)
                for trip in plain_trips(stops)[:3]:
                    self.assertIs(shows_far(table, ring, list(stops), trip), False)

    def test_trips_by_words(self):
        numbers = Numbers(51)
        for table, ring in skip_pairs(50, (1, 3, 5), 3):
            for stops in odd_sets(table):
                trips = plain_trips(stops)
                longest = max(closed_length(table, trip) for trip in trips)
                for trip in trips:
                    begun = numbers.below(len(trip))
                    for same in (trip, trip[::-1], trip[begun:] + trip[:begun]):
                        shows = closed_length(table, trip) == longest
                        self.assertIs(shows_far(table, ring, numbers.mixed(stops), same), shows)

    def test_wrong_pairs(self):
        stops = [3, 0, 1, 2]
        self.assertIs(shows_far(FIVE, RING, stops, [(0, 2), (1, 3)]), True)
        for value in ([(1, 3), (0, 2)], [(2, 0), (1, 3)], [(0, 2), (3, 1)], [[0, 2], (1, 3)], ((0, 2), (1, 3)), [(0, 2)], [(0, 2), (1, 4)],
                      [(0, 2), (1, 3), (0, 2)], [(False, 2), (1, 3)], [(0, 2), (True, 3)], [0, 2, 1, 3], [], None, True,
                      [(0, 2, 1, 3)], [(0, 2), None], [(0, 2), (1,)], [(0, 2), (1, "3")], [(0, 2), (1, [3])], "02 13",
                      {(0, 2), (1, 3)}, {(0, 2): 1}, [(0, 2), (1, 10 ** 59)], [(-3, 2), (1, 0)], 10, object()):
            self.assertIs(shows_far(FIVE, RING, stops, value), False)
        self.assertIs(shows_far(zeros(4), [0, 1, 2, 3], [0, 1], [(0, 1)]), True)
        self.assertIs(shows_far(zeros(4), [0, 1, 2, 3], [0, 1], [(0, 0)]), False)
        self.assertIs(shows_far(zeros(4), [0, 1, 2, 3], [0, 1], [(0, 1), (2, 3)]), False)

    def test_wrong_trips(self):
        self.assertIs(shows_far(FIVE, RING, RING, [2, 4, 1, 3, 0]), True)
        for value in ((0, 2, 4, 1, 3), [0, 2, 4, 1], [0, 2, 4, 1, 3, 0], [0, 2, 4, 1, True], [False, 2, 4, 1, 3], None, [],
                      [0, 2, 4, 1, 1], [0, 2, 4, 1, 5], [0, 2, 4, 1, None], [0, 2, 4, 1, "3"], "02413", {0, 1, 2, 3, 4},
                      [(0, 2), (1, 3)], [[0, 2, 4, 1, 3]], 22, True, object(), [0, 1, 2, 3, 4]):
            self.assertIs(shows_far(FIVE, RING, RING, value), False)
        self.assertIs(shows_far(FIVE, RING, [1], [1]), True)
        for value in ([True], (1,), [0], [], 1, [1, 1], None):
            self.assertIs(shows_far(FIVE, RING, [1], value), False)

    def test_no_skip_ring(self):
        for stops in ([0, 1], [0, 1, 2], [0]):
            self.assertRaises(NotSkip, shows_far, SPLIT, RING, stops, None)


if __name__ == "__main__":
    unittest.main()
