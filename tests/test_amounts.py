"""[7], [8], [9], [10], [17]: bars, cuts and amounts."""

import unittest
from itertools import combinations

from skipstops.amounts import bar_of, cut_amounts, cuts_of, heavy_cuts, is_bar, is_skip, place_amounts, table_with
from skipstops.errors import NoTable, NotSkip
from tests.tools import FIVE, GREATEST, Numbers, RING, SPLIT, any_table, bars_by_words, closed_length, drawn_tables
from tests.tools import exact, in_ring_sequence, ring_sides, rings_by_words, skip_table, skips_by_words, zeros


def drawn_pairs(seed, sizes, many):
    """Some tables, each with the ring 0, 1, .. and a mixed one."""
    numbers = Numbers(seed)
    for table in drawn_tables(seed, sizes, many):
        yield table, list(range(len(table)))
        yield table, numbers.mixed(range(len(table)))


def parts(cut, one, other):
    return (one in cut) != (other in cut)


class Cuts(unittest.TestCase):
    def test_cuts_are_the_sides_without_0(self):
        numbers = Numbers(1)
        for count in range(1, 12):
            for ring in (list(range(count)), numbers.mixed(range(count)), numbers.mixed(range(count))):
                self.assertEqual(exact(cuts_of(ring)), exact(ring_sides(ring)))

    def test_how_many(self):
        for count in range(4, 31):
            self.assertEqual(len(cuts_of(list(range(count)))), count * (count - 3) // 2)

    def test_short_rings_have_none(self):
        for ring in ([0], [1, 0], [2, 0, 1]):
            self.assertEqual(cuts_of(ring), [])
            self.assertEqual(cut_amounts(zeros(len(ring)), ring), [])
            self.assertEqual(heavy_cuts(zeros(len(ring)), ring), [])

    def test_four_places(self):
        self.assertEqual(cuts_of([3, 1, 0, 2]), [(1, 3), (2, 3)])

    def test_alike_rings_have_the_same(self):
        for ring in ([3, 4, 0, 1, 2], [2, 1, 0, 4, 3], [0, 4, 3, 2, 1]):
            self.assertEqual(cuts_of(ring), cuts_of(RING))
            self.assertEqual(cut_amounts(FIVE, ring), cut_amounts(FIVE, RING))
            self.assertEqual(place_amounts(FIVE, ring), place_amounts(FIVE, RING))


class Amounts(unittest.TestCase):
    def test_few_places(self):
        self.assertEqual(place_amounts([[0]], [0]), [0])
        self.assertEqual(place_amounts([[0, 7], [7, 0]], [1, 0]), [7, 7])
        self.assertEqual(place_amounts([[0, 7, 2], [7, 0, 3], [2, 3, 0]], [1, 0, 2]), [6, 8, -2])

    def test_below_0(self):
        table = [[0, 1, 5, 1], [1, 0, 1, 5], [5, 1, 0, 1], [1, 5, 1, 0]]
        self.assertEqual(place_amounts(table, [0, 1, 2, 3]), [-3, -3, -3, -3])
        self.assertEqual(cut_amounts(table, [0, 1, 2, 3]), [((1, 2), 8), ((2, 3), 8)])
        self.assertEqual(cut_amounts(table, [0, 2, 1, 3]), [((1, 2), 0), ((1, 3), -8)])

    def test_twice_each_distance_is_their_sum(self):
        for table, ring in drawn_pairs(2, range(2, 10), 4):
            own = place_amounts(table, ring)
            cuts = cut_amounts(table, ring)
            self.assertEqual([cut for cut, _ in cuts], ring_sides(ring))
            for one, other in combinations(range(len(table)), 2):
                parted = sum(amount for cut, amount in cuts if parts(cut, one, other))
                # Of two places, both have their distance, and this is the sum, too.
                self.assertEqual(2 * table[one][other], own[one] + own[other] + parted)

    def test_lengths_round_the_ring(self):
        for table, ring in drawn_pairs(3, range(3, 7), 3):
            own = place_amounts(table, ring)
            cuts = cut_amounts(table, ring)
            for size in range(2, len(table) + 1):
                for stops in combinations(range(len(table)), size):
                    parted = sum(amount for cut, amount in cuts if 0 < len(set(cut) & set(stops)) < size)
                    told = sum(own[place] for place in stops) + parted
                    self.assertEqual(told, closed_length(table, in_ring_sequence(ring, stops)))

    def test_thirty_places(self):
        table = any_table(Numbers(4), 30, GREATEST + 1)
        ring = Numbers(5).mixed(range(30))
        own = place_amounts(table, ring)
        cuts = cut_amounts(table, ring)
        self.assertEqual(len(cuts), 405)
        self.assertEqual(table_with(ring, own, cuts), table)


class Skips(unittest.TestCase):
    def test_one_to_three_places_always_skip(self):
        numbers = Numbers(6)
        for count in (1, 2, 3):
            for _ in range(5):
                table = any_table(numbers, count, 50)
                ring = numbers.mixed(range(count))
                self.assertIs(is_skip(table, ring), True)
                self.assertIsNone(bar_of(table, ring))
                self.assertIs(is_bar(table, ring, (0, 1, 2, 3)), False)

    def test_skip_rings_and_bars_by_their_words(self):
        found = {True: 0, False: 0}
        for table, ring in drawn_pairs(7, range(4, 7), 6):
            skips = skips_by_words(table, ring)
            found[skips] += 1
            bars = bars_by_words(table, ring)
            self.assertEqual(skips, not bars)
            self.assertIs(is_skip(table, ring), skips)
            self.assertEqual(skips, all(amount >= 0 for _, amount in cut_amounts(table, ring)))
            bar = bar_of(table, ring)
            self.assertEqual(bar is None, skips)
            if bar is not None:
                self.assertIn(exact(bar), [exact(one) for one in bars])
            for stops in combinations(range(len(table)), 4):
                self.assertIs(is_bar(table, ring, stops), stops in bars)
        self.assertGreater(min(found.values()), 20)

    def test_several_bars(self):
        ring = [0, 2, 1, 3, 4]
        bars = bars_by_words(FIVE, ring)
        self.assertEqual(len(bars), 2)
        self.assertIn(bar_of(FIVE, ring), bars)
        self.assertEqual(bar_of(FIVE, ring), bar_of(FIVE, ring))

    def test_any_value_may_be_asked(self):
        ring = [0, 2, 1, 3, 4]
        self.assertIs(is_bar(FIVE, ring, (0, 1, 2, 3)), True)
        wrong = [None, True, 4, "0123", b"0123", [0, 1, 2, 3], {0, 1, 2, 3}, {}, (), (0, 1, 2), (0, 1, 2, 3, 4),
                 (False, 1, 2, 3), (0, True, 2, 3), (1, 0, 2, 3), (0, 1, 3, 2), (0, 1, 1, 3), (0, 0, 1, 2, 3),
                 (0, 1, 2, 5), (-1, 1, 2, 3), (0, 1, 2, None), (0, 1, 2, "3"), ((0, 1, 2, 3),), (0, 1, 2, [3]),
                 (0, 1, 2, 10 ** 59), (3, 2, 1, 0), object()]
        for value in wrong:
            with self.subTest(value=value):
                self.assertIs(is_bar(FIVE, ring, value), False)

    def test_thirty_places(self):
        ring = Numbers(8).mixed(range(30))
        table = skip_table(Numbers(9), ring, 60)
        self.assertIs(is_skip(table, ring), True)
        turned = ring[:]
        turned[3], turned[20] = turned[20], turned[3]
        self.assertIs(is_skip(table, turned), False)
        self.assertIs(is_bar(table, turned, bar_of(table, turned)), True)


class Heavy(unittest.TestCase):
    def test_those_above_0(self):
        self.assertEqual(heavy_cuts(FIVE, [4, 3, 2, 1, 0]), [((1, 2), 2), ((2, 3), 4)])
        self.assertEqual(heavy_cuts(zeros(6), [0, 3, 1, 2, 5, 4]), [])
        for table, ring in drawn_pairs(10, range(1, 7), 4):
            cuts = cut_amounts(table, ring)
            if is_skip(table, ring):
                self.assertEqual(heavy_cuts(table, ring), [pair for pair in cuts if pair[1] > 0])
            else:
                self.assertRaises(NotSkip, heavy_cuts, table, ring)

    def test_no_skip_ring(self):
        self.assertRaises(NotSkip, heavy_cuts, FIVE, [0, 2, 1, 3, 4])
        self.assertRaises(NotSkip, heavy_cuts, SPLIT, RING)

    def test_all_skip_rings_have_the_same(self):
        numbers = Numbers(11)
        for count in (4, 5, 6):
            for heavy in range(4):
                table = skip_table(numbers, numbers.mixed(range(count)), heavy)
                rings = rings_by_words(table)
                self.assertEqual(len({str(heavy_cuts(table, ring)) for ring in rings}), 1)


class TableWith(unittest.TestCase):
    def test_it_undoes_the_amounts(self):
        for table, ring in drawn_pairs(12, range(1, 9), 3):
            own = place_amounts(table, ring)
            cuts = cut_amounts(table, ring)
            some = [pair for pair in cuts if pair[1] != 0]
            self.assertEqual(table_with(ring, own, cuts), table)
            self.assertEqual(table_with(ring, own, some), table)

    def test_few_places(self):
        self.assertEqual(table_with([0], [0], []), [[0]])
        self.assertEqual(table_with([1, 0], [3, 3], []), [[0, 3], [3, 0]])
        self.assertEqual(table_with([1, 0], [0, 0], []), [[0, 0], [0, 0]])
        self.assertEqual(table_with([1, 0, 2], [6, 8, -2], []), [[0, 7, 2], [7, 0, 3], [2, 3, 0]])

    def test_wrong_amounts_of_few_places(self):
        for amount in (1, 2, -2, 10 ** 59):
            self.assertRaises(NoTable, table_with, [0], [amount], [])
        for amounts in ([1, 3], [0, 2], [-1, 1], [-1, -1], [GREATEST + 1] * 2):
            self.assertRaises(NoTable, table_with, [0, 1], amounts, [])
        self.assertEqual(table_with([0, 1], [GREATEST] * 2, [])[0], [0, GREATEST])

    def test_each_distance_must_be_an_integer(self):
        self.assertRaises(NoTable, table_with, [0, 1, 2], [1, 0, 0], [])
        self.assertRaises(NoTable, table_with, RING, [2, 2, 2, 2, 2], [((2, 3), 1)])
        self.assertRaises(NoTable, table_with, RING, [2, 2, 2, 2, 3], [])
        self.assertEqual(table_with([0, 1, 2], [1, 1, 3], []), [[0, 1, 2], [1, 0, 2], [2, 2, 0]])

    def test_no_distance_may_be_out_of_bounds(self):
        self.assertRaises(NoTable, table_with, [0, 1, 2], [2, -4, 2], [])
        self.assertEqual(table_with([0, 1, 2], [2, -2, 2], [])[1], [0, 0, 0])
        self.assertEqual(table_with([0, 1, 2], [GREATEST] * 3, [])[1], [GREATEST, 0, GREATEST])
        self.assertRaises(NoTable, table_with, [0, 1, 2], [GREATEST, GREATEST, GREATEST + 2], [])
        self.assertRaises(NoTable, table_with, [0, 1, 2, 3], [0] * 4, [((1, 2), -2)])
        great = [((1, 2), 2 * GREATEST)]
        self.assertEqual(table_with([0, 1, 2, 3], [0] * 4, great)[0], [0, GREATEST, GREATEST, 0])
        self.assertRaises(NoTable, table_with, [0, 1, 2, 3], [0, 0, 0, 2], great)

    def test_amounts_below_0(self):
        table = [[0, 1, 5, 1], [1, 0, 1, 5], [5, 1, 0, 1], [1, 5, 1, 0]]
        self.assertEqual(table_with([0, 1, 2, 3], [-3] * 4, [((1, 2), 8), ((2, 3), 8)]), table)
        self.assertEqual(table_with([0, 2, 1, 3], place_amounts(table, [0, 2, 1, 3]), [((1, 3), -8)]), table)

    def test_cuts_of_thirty_places(self):
        ring = list(range(30))
        table = table_with(ring, [2] * 30, [(tuple(range(10, 20)), 6), ((12, 13), 2)])
        self.assertEqual([table[0][9], table[0][10], table[15][9], table[15][13], table[0][12]], [2, 5, 5, 3, 6])
        self.assertEqual(heavy_cuts(table, ring), [(tuple(range(10, 20)), 6), ((12, 13), 2)])


if __name__ == "__main__":
    unittest.main()
