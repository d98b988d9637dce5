"""[20]: stops that are cheapest, dearest, best or as many as possible."""

import unittest
from itertools import combinations

from skipstops.choosing import adds, best_prizes, cheapest_stops, dearest_stops, most_stops
from skipstops.errors import NotSkip
from tests.tools import FIVE, GREATEST, Numbers, RING, SPLIT, closed_length, exact, in_ring_sequence, round_by_words
from tests.tools import skip_pairs, skip_table, subsets, zeros


def alike_distances(count, distance):
    return [[0 if one == other else distance for other in range(count)] for one in range(count)]


def chosen(table, ring):
    """For each set of stops the tuple (length, stops) with them as a list."""
    return [(round_by_words(table, ring, stops), list(stops)) for stops in subsets(range(len(table))) if stops]


class SoMany(unittest.TestCase):
    def test_by_words(self):
        for table, ring in skip_pairs(60, range(1, 9), 4):
            found = chosen(table, ring)
            for many in range(1, len(table) + 1):
                sized = [(length, stops) for length, stops in found if len(stops) == many]
                self.assertEqual(exact(cheapest_stops(table, ring, many)), exact(min(sized)))
                dearest = min((-length, stops) for length, stops in sized)
                self.assertEqual(exact(dearest_stops(table, ring, many)), exact((-dearest[0], dearest[1])))

    def test_few(self):
        for ring in (RING, [3, 4, 0, 1, 2]):
            self.assertEqual(cheapest_stops(FIVE, ring, 1), (0, [0]))
            self.assertEqual(dearest_stops(FIVE, ring, 1), (0, [0]))
            self.assertEqual(cheapest_stops(FIVE, ring, 2), (4, [0, 4]))
            self.assertEqual(dearest_stops(FIVE, ring, 2), (10, [0, 2]))
            self.assertEqual(cheapest_stops(FIVE, ring, 5), (16, RING))
            self.assertEqual(dearest_stops(FIVE, ring, 5), (16, RING))
        self.assertEqual([cheapest_stops([[0]], [0], 1), dearest_stops([[0]], [0], 1)], [(0, [0]), (0, [0])])

    def test_the_first_of_many(self):
        ring = Numbers(61).mixed(range(30))
        for distance in (0, 1, GREATEST):
            table = alike_distances(30, distance)
            for many in (1, 2, 7, 15, 29, 30):
                length = many * distance if many > 1 else 0
                self.assertEqual(cheapest_stops(table, ring, many), (length, list(range(many))))
                self.assertEqual(dearest_stops(table, ring, many), (length, list(range(many))))

    def test_thirty_places(self):
        numbers = Numbers(62)
        ring = numbers.mixed(range(30))
        table = skip_table(numbers, ring, 70)
        for find, sign in ((cheapest_stops, 1), (dearest_stops, -1)):
            for many in (2, 3, 28, 29):
                sized = combinations(range(30), many)
                least = min((sign * round_by_words(table, ring, stops), list(stops)) for stops in sized)
                self.assertEqual(find(table, ring, many), (sign * least[0], least[1]))
            length, stops = find(table, ring, 15)
            self.assertEqual([length, sorted(set(stops))], [round_by_words(table, ring, stops), stops])
            for out in stops:
                for place in range(30):
                    if place not in stops:
                        other = sorted([one for one in stops if one != out] + [place])
                        told = (sign * round_by_words(table, ring, other), other)
                        self.assertGreater(told, (sign * length, stops))

    def test_no_skip_ring(self):
        self.assertRaises(NotSkip, cheapest_stops, SPLIT, RING, 1)
        self.assertRaises(NotSkip, dearest_stops, SPLIT, RING, 1)


class Prizes(unittest.TestCase):
    def by_words(self, table, ring, prizes):
        found = [(0, [])]
        for length, stops in chosen(table, ring):
            found.append((length - sum(prizes[place] for place in stops), stops))
        least, stops = min(found)
        return (-least, stops)

    def test_by_words(self):
        numbers = Numbers(63)
        for table, ring in skip_pairs(64, range(1, 9), 4):
            for limit in (1, 2, 4, 12):
                prizes = [numbers.below(limit) for _ in table]
                self.assertEqual(exact(best_prizes(table, ring, prizes)), exact(self.by_words(table, ring, prizes)))

    def test_a_shorter_list_comes_first(self):
        # With the prize 0 and the distance 0 a further stop neither costs nor pays.
        ring = [0, 1, 2, 3]
        self.assertEqual(best_prizes(zeros(4), ring, [0, 0, 0, 0]), (0, []))
        self.assertEqual(best_prizes(zeros(4), ring, [1, 0, 0, 0]), (1, [0]))
        self.assertEqual(best_prizes(zeros(4), ring, [0, 1, 0, 0]), (1, [0, 1]))
        self.assertEqual(best_prizes(zeros(4), ring, [0, 0, 0, 2]), (2, [0, 1, 2, 3]))
        self.assertEqual(best_prizes(zeros(4), ring, [0, 3, 1, 0]), (4, [0, 1, 2]))

    def test_bounds(self):
        self.assertEqual(best_prizes([[0]], [0], [0]), (0, []))
        self.assertEqual(best_prizes([[0]], [0], [GREATEST]), (GREATEST, [0]))
        self.assertEqual(best_prizes(alike_distances(5, GREATEST), RING, [GREATEST] * 5), (GREATEST, [0]))
        self.assertEqual(best_prizes(alike_distances(5, 1), RING, [GREATEST] * 5), (5 * GREATEST - 5, RING))
        self.assertEqual(best_prizes(alike_distances(5, 5), RING, [1, 1, 7, 1, 1]), (7, [2]))

    def test_thirty_places(self):
        numbers = Numbers(65)
        ring = numbers.mixed(range(30))
        table = skip_table(numbers, ring, 70)
        prizes = [numbers.below(120) for _ in range(30)]
        worth, stops = best_prizes(table, ring, prizes)
        worth_of = {}
        for other in [stops] + [sorted(set(stops) ^ set(flip)) for size in (1, 2) for flip in combinations(range(30), size)]:
            worth_of[tuple(other)] = sum(prizes[place] for place in other) - round_by_words(table, ring, other)
        self.assertEqual([worth, worth_of[tuple(stops)]], [max(worth_of.values())] * 2)
        self.assertEqual(min(other for other in worth_of if worth_of[other] == worth), tuple(stops))
        self.assertEqual(best_prizes(zeros(30), ring, [0] * 29 + [4]), (4, list(range(30))))
        self.assertEqual(best_prizes(zeros(30), ring, [0] * 9 + [4] + [0] * 20), (4, list(range(10))))

    def test_no_skip_ring(self):
        self.assertRaises(NotSkip, best_prizes, SPLIT, RING, [0] * 5)


class Most(unittest.TestCase):
    def test_by_words(self):
        for table, ring in skip_pairs(66, range(1, 9), 3):
            found = chosen(table, ring)
            longest = max(length for length, _ in found)
            for limit in sorted({0, 1, 2, 5, 9, longest // 3, longest // 2, longest - 1, longest, longest + 1, 10 ** 59}):
                if limit >= 0:
                    many, stops = min((-len(stops), stops) for length, stops in found if length <= limit)
                    self.assertEqual(exact(most_stops(table, ring, limit)), exact((-many, stops)))

    def test_bounds(self):
        self.assertEqual(most_stops([[0]], [0], 0), (1, [0]))
        table = alike_distances(30, GREATEST)
        ring = Numbers(67).mixed(range(30))
        self.assertEqual(most_stops(table, ring, 0), (1, [0]))
        self.assertEqual(most_stops(table, ring, 2 * GREATEST - 1), (1, [0]))
        self.assertEqual(most_stops(table, ring, 2 * GREATEST), (2, [0, 1]))
        self.assertEqual(most_stops(table, ring, 17 * GREATEST + 1), (17, list(range(17))))
        self.assertEqual(most_stops(table, ring, 30 * GREATEST - 1), (29, list(range(29))))
        self.assertEqual(most_stops(table, ring, 30 * GREATEST), (30, list(range(30))))
        self.assertEqual(most_stops(table, ring, 10 ** 59), (30, list(range(30))))
        self.assertEqual(most_stops(zeros(30), ring, 0), (30, list(range(30))))

    def test_not_the_cheapest_but_the_first(self):
        self.assertEqual(cheapest_stops(FIVE, RING, 3), (8, [0, 1, 4]))
        self.assertEqual([most_stops(FIVE, RING, length) for length in (8, 11)], [(3, [0, 1, 4])] * 2)
        self.assertEqual(most_stops(FIVE, RING, 12), (3, [0, 1, 2]))

    def test_thirty_places(self):
        numbers = Numbers(68)
        ring = numbers.mixed(range(30))
        table = skip_table(numbers, ring, 70)
        for many in (1, 2, 11, 20, 29, 30):
            length = cheapest_stops(table, ring, many)[0]
            told, stops = most_stops(table, ring, length)
            self.assertGreaterEqual(told, many)
            self.assertLessEqual(round_by_words(table, ring, stops), length)
            if told < 30:
                self.assertGreater(cheapest_stops(table, ring, told + 1)[0], length)
        length = cheapest_stops(table, ring, 28)[0] + 40
        many, stops = most_stops(table, ring, length)
        if many in (28, 29):
            sized = [list(one) for one in combinations(range(30), many) if round_by_words(table, ring, one) <= length]
            self.assertEqual(stops, min(sized))

    def test_no_skip_ring(self):
        self.assertRaises(NotSkip, most_stops, SPLIT, RING, 0)


class Adds(unittest.TestCase):
    def test_by_words(self):
        numbers = Numbers(69)
        below = 0
        for table, ring in skip_pairs(70, range(1, 7), 3):
            for stops in subsets(range(len(table)))[1:]:
                for place in range(len(table)):
                    more = closed_length(table, in_ring_sequence(ring, {*stops, place}))
                    wanted = more - round_by_words(table, ring, stops)
                    below += wanted < 0
                    self.assertEqual(adds(table, ring, numbers.mixed(stops), place), wanted)
        self.assertGreater(below, 20)

    def test_stops_themselves_and_bounds(self):
        self.assertEqual([adds(FIVE, RING, [3, 1], place) for place in (1, 3, 2)], [0, 0, 2])
        self.assertEqual(adds([[0]], [0], [0], 0), 0)
        self.assertEqual(adds(alike_distances(30, GREATEST), list(range(30)), [7], 29), 2 * GREATEST)
        self.assertEqual(adds([[0, 0, 9], [0, 0, 0], [9, 0, 0]], [0, 1, 2], [0, 2], 1), -9)

    def test_no_skip_ring(self):
        self.assertRaises(NotSkip, adds, SPLIT, RING, [0], 0)


if __name__ == "__main__":
    unittest.main()
