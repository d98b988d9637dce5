"""[4], [5], [7], [22]: one distance changed, one place more or less."""

import unittest
from itertools import combinations

from skipstops.amounts import is_skip, place_amounts
from skipstops.changes import grown, left_out, new_spots, ring_without, shrunk, slack
from skipstops.errors import InvalidPlace, InvalidRow, LastPlace, NotSkip, TooLarge
from skipstops.rings import is_ring, is_table
from tests.tools import FIVE, GREATEST, Numbers, RING, SPLIT, any_table, bars_by_words, drawn_tables, exact, skip_pairs
from tests.tools import skip_table, skips_by_words, zeros


def with_distance(table, one, other, distance):
    changed = [row[:] for row in table]
    changed[one][other] = changed[other][one] = distance
    return changed


def without(table, ring, places):
    """The table and the ring without some places, the others numbered anew."""
    kept = [place for place in range(len(table)) if place not in places]
    smaller = [[table[one][other] for other in kept] for one in kept]
    return smaller, [kept.index(place) for place in ring if place in kept]


class Slack(unittest.TestCase):
    def check(self, table, ring, one, other):
        """At the bounds the ring is a skip ring, one beyond them it is not, between them it is."""
        least, greatest = slack(table, ring, one, other)
        self.assertEqual((least, greatest), slack(table, ring, other, one))
        self.assertGreaterEqual(least, 0)
        right = [least, table[one][other], table[one][other] + 1 if greatest is None else greatest]
        wrong = [least - 1] if least > 0 else []
        if greatest is None:
            right.append(table[one][other] + 10 ** 40)
        else:
            wrong.append(greatest + 1)
            right.append((least + greatest) // 2)
        for distance in right:
            self.assertFalse(bars_by_words(with_distance(table, one, other, distance), ring))
        for distance in wrong:
            self.assertTrue(bars_by_words(with_distance(table, one, other, distance), ring))
        return greatest is None

    def test_by_words(self):
        bounds = {True: 0, False: 0}
        for table, ring in skip_pairs(101, range(2, 8), 3):
            for one, other in combinations(range(len(table)), 2):
                bounds[self.check(table, ring, one, other)] += 1
        self.assertGreater(min(bounds.values()), 20)

    def test_few_places(self):
        self.assertEqual(slack([[0, 7], [7, 0]], [1, 0], 1, 0), (0, None))
        for one, other in ((0, 1), (1, 2), (2, 0)):
            self.assertEqual(slack([[0, 7, 1], [7, 0, 2], [1, 2, 0]], [1, 0, 2], one, other), (0, None))

    def test_four_places(self):
        table = [[0, 4, 9, 4], [4, 0, 4, 7], [9, 4, 0, 4], [4, 7, 4, 0]]
        ring = [0, 1, 2, 3]
        self.assertEqual([slack(table, ring, 0, 2), slack(table, ring, 3, 1)], [(1, None), (0, None)])
        self.assertEqual([slack(table, ring, 0, 1), slack(table, ring, 0, 3)], [(0, 12), (0, 12)])

    def test_a_greatest_one_above_all_distances(self):
        table = [[0 if one == other else GREATEST for other in range(4)] for one in range(4)]
        self.assertEqual(slack(table, [0, 1, 2, 3], 2, 1), (0, GREATEST))
        table[0][2] = table[2][0] = table[1][3] = table[3][1] = GREATEST
        table[0][1] = table[1][0] = table[2][3] = table[3][2] = 0
        self.assertEqual(slack(table, [0, 1, 2, 3], 0, 1), (0, 2 * GREATEST))

    def test_thirty_places(self):
        numbers = Numbers(102)
        ring = numbers.mixed(range(30))
        table = skip_table(numbers, ring, 200)
        for at in (1, 2, 3, 15, 28, 29):
            least, greatest = slack(table, ring, ring[0], ring[at])
            for distance, skips in ((least, True), (greatest, True), (least - 1, False), (greatest + 1, False)):
                if distance >= 0:
                    changed = with_distance(table, ring[0], ring[at], distance)
                    self.assertIs(is_skip(changed, ring), skips)

    def test_wrong_places(self):
        for one, other in ((2, 2), (0, 5), (5, 0), (-1, 2), (True, 2), (2, True), (1, True), (2, None), ("0", 1)):
            self.assertRaises(InvalidPlace, slack, FIVE, RING, one, other)
            self.assertRaises(InvalidPlace, slack, SPLIT, RING, one, other)
        for other in (0, 1, None):
            self.assertRaises(InvalidPlace, slack, [[0]], [0], 0, other)
        self.assertRaises(NotSkip, slack, SPLIT, RING, 0, 2)


class Grown(unittest.TestCase):
    def test_by_words(self):
        numbers = Numbers(103)
        for table in drawn_tables(104, range(1, 8), 1) + [any_table(numbers, 29, 50)]:
            row = [numbers.below(9) for _ in table]
            told = grown(table, row)
            self.assertTrue(is_table(told))
            self.assertEqual([line[:-1] for line in told[:-1]], table)
            self.assertEqual([line[-1] for line in told], row + [0])
            self.assertEqual(told[-1], row + [0])
            self.assertEqual(shrunk(told, len(table)), table)

    def test_bounds(self):
        self.assertEqual(grown([[0]], [0]), [[0, 0], [0, 0]])
        self.assertEqual(grown([[0]], [GREATEST]), [[0, GREATEST], [GREATEST, 0]])
        for row in ([GREATEST + 1], [-1], [], [0, 0], [True], (0,), None):
            self.assertRaises(InvalidRow, grown, [[0]], row)

    def test_thirty_places(self):
        self.assertEqual(grown(zeros(29), [0] * 29), zeros(30))
        for count in (30,):
            with self.assertRaises(TooLarge) as caught:
                grown(zeros(count), [0] * count)
            self.assertEqual(caught.exception.limit, 30)
            self.assertRaises(InvalidRow, grown, zeros(count), [0] * (count + 1))


class Shrunk(unittest.TestCase):
    def test_by_words(self):
        numbers = Numbers(105)
        for table in drawn_tables(106, range(2, 8), 1) + [any_table(numbers, 30, 50)]:
            ring = numbers.mixed(range(len(table)))
            for place in range(len(table)):
                self.assertEqual((shrunk(table, place), ring_without(ring, place)), without(table, ring, [place]))
                self.assertTrue(is_table(shrunk(table, place)))
                self.assertTrue(is_ring(len(ring) - 1, ring_without(ring, place)))

    def test_few_places(self):
        self.assertEqual([shrunk([[0, 3], [3, 0]], 0), ring_without([1, 0], 0), ring_without([1, 0], 1)], [[[0]], [0], [0]])
        self.assertRaises(LastPlace, shrunk, [[0]], 0)
        self.assertRaises(LastPlace, ring_without, [0], 0)
        for place in (1, -1, True, False, None, "0", [0]):
            self.assertRaises(InvalidPlace, shrunk, [[0]], place)
            self.assertRaises(InvalidPlace, ring_without, [0], place)


class Spots(unittest.TestCase):
    def by_words(self, table, ring, row):
        more = len(table)
        bigger = [line + [to] for line, to in zip(table, row)] + [row + [0]]
        return [at for at in range(more) if not bars_by_words(bigger, ring[:at + 1] + [more] + ring[at + 1:])]

    def test_by_words(self):
        numbers = Numbers(107)
        sizes = {}
        for table, ring in skip_pairs(108, range(2, 9), 4):
            for limit in (1, 4, 20):
                row = [numbers.below(limit) for _ in ring]
                told = new_spots(table, ring, row)
                self.assertEqual(exact(told), exact(self.by_words(table, ring, row)))
                sizes[len(told)] = sizes.get(len(told), 0) + 1
            # A place that is taken away may stand where it stood.
            place = numbers.below(len(table))
            smaller, kept = without(table, ring, [place])
            row = [table[place][other] for other in range(len(table)) if other != place]
            told = new_spots(smaller, kept, row)
            self.assertEqual(told, self.by_words(smaller, kept, row))
            self.assertIn((ring.index(place) - 1) % len(kept), told)
            # A place that stands where another one stands has a spot on both sides of it, if no way is a short cut.
            at = numbers.below(len(ring))
            told = new_spots(table, ring, table[ring[at]])
            self.assertEqual(told, self.by_words(table, ring, table[ring[at]]))
            if min(place_amounts(table, ring)) >= 0:
                self.assertTrue({at, (at - 1) % len(ring)} <= set(told))
        self.assertGreater(sizes[0], 20)

    def test_few_places(self):
        self.assertEqual(new_spots([[0]], [0], [5]), [0])
        self.assertEqual(new_spots([[0, 5], [5, 0]], [1, 0], [0, GREATEST]), [0, 1])
        # Three places always are a skip ring, but the fourth one does not find a spot everywhere.
        table = [[0, 2, 2], [2, 0, 2], [2, 2, 0]]
        self.assertEqual(new_spots(table, [0, 1, 2], [2, 2, 2]), [0, 1, 2])
        self.assertEqual(new_spots(table, [0, 1, 2], [1, 1, 3]), [0])
        self.assertEqual(new_spots(table, [0, 1, 2], [3, 1, 1]), [1])
        self.assertEqual(new_spots(table, [2, 0, 1], [3, 1, 1]), [2])

    def test_thirty_places(self):
        numbers = Numbers(109)
        ring = numbers.mixed(range(29))
        table = skip_table(numbers, ring, 60)
        for at in (0, 13, 28):
            told = new_spots(table, ring, table[ring[at]])
            bigger = grown(table, table[ring[at]])
            for spot in range(29):
                self.assertIs(is_skip(bigger, ring[:spot + 1] + [29] + ring[spot + 1:]), spot in told)
        self.assertEqual(new_spots(zeros(29), ring, [GREATEST] * 29), list(range(29)))
        with self.assertRaises(TooLarge) as caught:
            new_spots(zeros(30), list(range(30)), [0] * 30)
        self.assertEqual(caught.exception.limit, 30)

    def test_errors_in_their_sequence(self):
        bad = zeros(30)
        bad[0][1] = bad[1][0] = 3
        ring = list(range(30))
        self.assertRaises(InvalidRow, new_spots, bad, ring, [0] * 29)
        self.assertRaises(NotSkip, new_spots, bad, ring, [0] * 30)
        self.assertRaises(NotSkip, new_spots, SPLIT, RING, [0] * 5)


class LeftOut(unittest.TestCase):
    def by_words(self, table, ring):
        places = range(len(table))
        for many in places:
            for left in combinations(places, many):
                if not bars_by_words(*without(table, ring, left)):
                    return list(left)

    def test_by_words(self):
        numbers = Numbers(110)
        sizes = {}
        for table in drawn_tables(111, range(1, 9), 3):
            ring = numbers.mixed(range(len(table)))
            told = left_out(table, ring)
            sizes[len(told)] = sizes.get(len(told), 0) + 1
            self.assertEqual(exact(told), exact(self.by_words(table, ring)))
        self.assertGreater(min(sizes[many] for many in range(4)), 2)

    def test_all_sets_of_stops(self):
        numbers = Numbers(112)
        for table in drawn_tables(113, (4, 5, 6), 1):
            ring = numbers.mixed(range(len(table)))
            places = range(len(table))
            wanted = next(list(left) for many in places for left in combinations(places, many)
                          if skips_by_words(*without(table, ring, left)))
            self.assertEqual(left_out(table, ring), wanted)

    def test_few_places(self):
        self.assertEqual([left_out([[0]], [0]), left_out([[0, 3], [3, 0]], [0, 1])], [[], []])
        self.assertEqual(left_out([[0, 1, 9], [1, 0, 1], [9, 1, 0]], [0, 2, 1]), [])
        self.assertEqual(left_out([[0, 1, 2, 1], [1, 0, 1, 2], [2, 1, 0, 1], [1, 2, 1, 0]], [0, 2, 1, 3]), [0])

    def test_ten_places_and_eleven(self):
        table = any_table(Numbers(114), 10, 1000)
        ring = list(range(10))
        told = left_out(table, ring)
        self.assertTrue(is_skip(*without(table, ring, told)))
        for many in range(len(told) + 1):
            for left in combinations(range(10), many):
                if is_skip(*without(table, ring, left)):
                    self.assertLessEqual(told, list(left))
        for count in (11, 30):
            with self.assertRaises(TooLarge) as caught:
                left_out(zeros(count), list(range(count)))
            self.assertEqual(caught.exception.limit, 10)


if __name__ == "__main__":
    unittest.main()
