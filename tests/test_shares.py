"""[12], [13], [14], [21]: costs and shares of them."""

import unittest
from fractions import Fraction
from itertools import combinations, permutations

from skipstops.amounts import cut_amounts, place_amounts
from skipstops.errors import Bending, InvalidSequence, InvalidShares, InvalidStops, NotSkip
from skipstops.shares import bending, costs, even_steps, fair_shares, limits, pays_beyond, shares_by
from tests.tools import FIVE, GREATEST, Numbers, RING, SPLIT, bent_table, exact, round_by_words, skip_pairs, skip_table
from tests.tools import subsets, zeros


def costs_by_words(table, ring, depot, group):
    return round_by_words(table, ring, {*group, depot}) if group else 0


def others_of(table, depot):
    return [place for place in range(len(table)) if place != depot]


def groups_of(table, depot):
    return subsets(others_of(table, depot))


def adding(table, ring, depot, sequence):
    """What each place adds to the costs, by the costs of all groups that the others form one by one."""
    found = [0] * len(table)
    for at, place in enumerate(sequence):
        more = costs_by_words(table, ring, depot, sequence[:at + 1])
        found[place] = more - costs_by_words(table, ring, depot, sequence[:at])
    return found


def fraction(value):
    return (value.numerator, value.denominator)


def fractions(shares):
    return [Fraction(top, bottom) for top, bottom in shares]


def excesses(table, ring, depot, shares):
    """For each group by how much it pays beyond its costs."""
    own = fractions(shares)
    found = {}
    for group in groups_of(table, depot):
        found[group] = sum(own[place] for place in group) - costs_by_words(table, ring, depot, group)
    return found


def bending_by_words(table, depot):
    others = others_of(table, depot)
    pairs = [(one, other) for one in others for other in others if one < other]
    return [pair for pair in pairs if table[pair[0]][depot] + table[depot][pair[1]] < table[pair[0]][pair[1]]]


def drawn_depots(seed, sizes, many):
    """Some tables, each with a skip ring and a depot."""
    numbers = Numbers(seed)
    return [(table, ring, numbers.below(len(table))) for table, ring in skip_pairs(seed, sizes, many)]


def straight_depots(seed, sizes, many):
    """Those of such for which no two others bend, and more of them with amounts below 0."""
    numbers = Numbers(seed)
    found = drawn_depots(seed, sizes, many)
    for count in sizes:
        for _ in range(6 * many):
            ring = numbers.mixed(range(count))
            table = bent_table(numbers, ring, numbers.below(2 * count))
            found += [(table, ring, depot) for depot in range(count)]
    return [(table, ring, depot) for table, ring, depot in found if not bending_by_words(table, depot)]


class Costs(unittest.TestCase):
    def test_by_words(self):
        numbers = Numbers(81)
        for table, ring, depot in drawn_depots(80, range(1, 8), 3):
            for group in groups_of(table, depot):
                self.assertEqual(costs(table, ring, depot, numbers.mixed(group)),
                                 costs_by_words(table, ring, depot, group))

    def test_wrong_groups(self):
        self.assertEqual([costs([[0]], [0], 0, []), costs(FIVE, RING, 4, [])], [0, 0])
        for group in ([2], [0, 2], [2, 2], [5], [-1], [True], (0, 1), {0}, "01", None, [[0]], [0, None]):
            if group != [0, 2]:
                self.assertRaises(InvalidStops, costs, FIVE, RING, 2, group)
                self.assertRaises(InvalidStops, limits, FIVE, RING, 2, group)
        self.assertRaises(InvalidStops, costs, [[0]], [0], 0, [0])
        self.assertRaises(InvalidStops, costs, FIVE, RING, 1, [True])
        self.assertRaises(InvalidStops, costs, SPLIT, RING, 2, [2])
        self.assertRaises(NotSkip, costs, SPLIT, RING, 2, [])

    def test_thirty_places(self):
        table = [[0 if one == other else GREATEST for other in range(30)] for one in range(30)]
        self.assertEqual(costs(table, list(range(30)), 3, list(range(29, 3, -1))), 27 * GREATEST)


class Fair(unittest.TestCase):
    def test_the_mean_over_all_sequences(self):
        for table, ring, depot in drawn_depots(82, range(1, 7), 3):
            sequences = list(permutations(others_of(table, depot)))
            total = [sum(column) for column in zip(*[adding(table, ring, depot, list(one)) for one in sequences])]
            wanted = [fraction(Fraction(one, len(sequences))) for one in total]
            self.assertEqual(exact(fair_shares(table, ring, depot)), exact(wanted))

    def test_by_amounts(self):
        for table, ring, depot in drawn_depots(83, (3, 8, 13, 30), 2):
            own = place_amounts(table, ring)
            shares = [Fraction(own[place]) + Fraction(own[depot], len(table) - 1) for place in range(len(table))]
            shares[depot] = Fraction(0)
            for cut, amount in cut_amounts(table, ring):
                for place in others_of(table, depot):
                    if (place in cut) != (depot in cut):
                        side = cut if place in cut else [one for one in range(len(table)) if one not in cut]
                        shares[place] += Fraction(amount, len(side))
            self.assertEqual(fair_shares(table, ring, depot), [fraction(share) for share in shares])
            self.assertEqual(sum(shares), costs(table, ring, depot, others_of(table, depot)))

    def test_few_places(self):
        self.assertEqual(fair_shares([[0]], [0], 0), [(0, 1)])
        self.assertEqual(fair_shares([[0, 7], [7, 0]], [1, 0], 1), [(14, 1), (0, 1)])
        self.assertEqual(fair_shares([[0, 0], [0, 0]], [0, 1], 0), [(0, 1), (0, 1)])
        self.assertEqual(fair_shares([[0, 1, 2], [1, 0, 8], [2, 8, 0]], [0, 1, 2], 0), [(0, 1), (9, 2), (13, 2)])
        self.assertEqual(fair_shares([[0, 1, 1], [1, 0, 9], [1, 9, 0]], [0, 1, 2], 1), [(-5, 2), (0, 1), (27, 2)])

    def test_no_group_pays_beyond_them_if_no_two_bend(self):
        for table, ring, depot in straight_depots(84, range(1, 7), 1):
            shares = fair_shares(table, ring, depot)
            self.assertLessEqual(max(excesses(table, ring, depot, shares).values()), 0)
            self.assertIsNone(pays_beyond(table, ring, depot, shares))

    def test_no_skip_ring(self):
        self.assertRaises(NotSkip, fair_shares, SPLIT, RING, 0)


class BySequence(unittest.TestCase):
    def test_by_words(self):
        numbers = Numbers(85)
        for table, ring, depot in drawn_depots(86, range(1, 9), 3):
            for _ in range(4):
                sequence = numbers.mixed(others_of(table, depot))
                self.assertEqual(exact(shares_by(table, ring, depot, sequence)),
                                 exact(adding(table, ring, depot, sequence)))

    def test_adding_less_and_less_if_no_two_bend(self):
        for table, ring, depot in straight_depots(87, range(2, 6), 1):
            for place in others_of(table, depot):
                for group in groups_of(table, depot):
                    for part in subsets(group):
                        if place not in group:
                            more = costs(table, ring, depot, [*group, place]) - costs(table, ring, depot, list(group))
                            less = costs(table, ring, depot, [*part, place]) - costs(table, ring, depot, list(part))
                            self.assertLessEqual(more, less)

    def test_wrong_sequences(self):
        self.assertEqual(shares_by([[0]], [0], 0, []), [0])
        for sequence in ([0, 1, 3], [0, 1, 3, 4, 2], [0, 1, 3, 3], [0, 1, 3, 5], [0, True, 3, 4], [False, 1, 3, 4], [],
                         (0, 1, 3, 4), {0, 1, 3, 4}, None, True, "0134", [0, 1, 2, 3], [0, 1, 3, None], [-1, 1, 3, 4]):
            self.assertRaises(InvalidSequence, shares_by, FIVE, RING, 2, sequence)
            self.assertRaises(InvalidSequence, shares_by, SPLIT, RING, 2, sequence)
        self.assertRaises(InvalidSequence, shares_by, [[0]], [0], 0, [0])
        self.assertRaises(NotSkip, shares_by, SPLIT, RING, 2, [0, 1, 3, 4])

    def test_thirty_places(self):
        numbers = Numbers(88)
        ring = numbers.mixed(range(30))
        table = skip_table(numbers, ring, 60)
        sequence = [place for place in numbers.mixed(range(30)) if place != 11]
        self.assertEqual(shares_by(table, ring, 11, sequence), adding(table, ring, 11, sequence))


class Bends(unittest.TestCase):
    def test_by_words(self):
        found = {True: 0, False: 0}
        for table, ring, depot in drawn_depots(89, range(1, 8), 4):
            pairs = bending_by_words(table, depot)
            found[bool(pairs)] += 1
            self.assertEqual(exact(bending(table, ring, depot)), exact(pairs[0] if pairs else None))
        self.assertGreater(min(found.values()), 8)

    def test_bounds(self):
        table = [[0, 2, 5], [2, 0, 3], [5, 3, 0]]
        self.assertIsNone(bending(table, [0, 1, 2], 1))
        table[0][2] = table[2][0] = 6
        self.assertEqual(bending(table, [0, 1, 2], 1), (0, 2))
        self.assertIsNone(bending(table, [0, 1, 2], 0))
        self.assertEqual([bending([[0]], [0], 0), bending([[0, 9], [9, 0]], [0, 1], 1)], [None, None])
        self.assertRaises(NotSkip, bending, SPLIT, RING, 0)

    def test_thirty_places(self):
        table = [[0 if one == other else GREATEST for other in range(30)] for one in range(30)]
        ring = list(range(30))
        self.assertIsNone(bending(table, ring, 5))
        for place in others_of(table, 5):
            table[5][place] = table[place][5] = GREATEST // 2
        self.assertIsNone(bending(table, ring, 5))
        # All ways by 5 become shorter by 2, but those between 0 to 4, which are parted from all others, do not.
        for one, other in combinations(ring, 2):
            distance = GREATEST // 2 - 5 if 5 in (one, other) else GREATEST - 8
            table[one][other] = table[other][one] = distance + ((one < 5) != (other < 5))
        self.assertEqual(bending_by_words(table, 5)[0], (0, 6))
        self.assertEqual(bending(table, ring, 5), (0, 6))


class Beyond(unittest.TestCase):
    def check(self, table, ring, depot, shares):
        found = excesses(table, ring, depot, shares)
        most = max(found.values())
        told = pays_beyond(table, ring, depot, shares)
        if most <= 0:
            self.assertIsNone(told)
            return 0
        self.assertEqual(exact(told), exact((list(told[0]), fraction(most))))
        self.assertEqual(found[tuple(told[0])], most)
        return 1

    def test_by_words(self):
        numbers = Numbers(91)
        many = beyond = 0
        for table, ring, depot in drawn_depots(90, range(1, 8), 3):
            for limit in (1, 2, 30):
                others = others_of(table, depot)
                left = Fraction(costs(table, ring, depot, others))
                shares = [(0, 1)] * len(table)
                for place in others[1:]:
                    part = Fraction(numbers.below(2 * limit) - limit, 1 + numbers.below(6)) + left / len(others)
                    times = 1 + numbers.below(3)
                    shares[place] = (part.numerator * times, part.denominator * times)
                    left -= part
                if others:
                    shares[others[0]] = fraction(left)
                elif left:
                    continue
                many += 1
                beyond += self.check(table, ring, depot, shares)
        self.assertGreater(beyond, many // 3)
        self.assertGreater(many - beyond, 10)

    def test_few_places(self):
        self.assertIsNone(pays_beyond([[0]], [0], 0, [(0, 1)]))
        self.assertIsNone(pays_beyond([[0]], [0], 0, [(0, 10 ** 59)]))
        self.assertIsNone(pays_beyond([[0, 7], [7, 0]], [0, 1], 0, [(0, 3), (28, 2)]))

    def test_lowest_terms_and_great_bottoms(self):
        told = pays_beyond(FIVE, RING, 0, [(0, 9), (8, 2), (40, 10), (2, 1), (18, 3)])
        self.assertEqual(exact(told), exact((told[0], (2, 1))))
        great = 10 ** 59 + 9
        shares = [(0, 1), (2 * great - 1, great), (2 * great + 1, great), (6, 1), (6, 1)]
        self.check(FIVE, RING, 0, shares)
        shares = [(0, 1), (great - 1, great), (10 ** 59, 10 ** 59), (10 ** 58 + 1, 10 ** 58), (13, 1)]
        left = 16 - sum(fractions(shares)[:4])
        self.check(FIVE, RING, 0, shares[:4] + [fraction(left)])

    def test_thirty_places(self):
        numbers = Numbers(92)
        ring = numbers.mixed(range(30))
        table = skip_table(numbers, ring, 60)
        fair = fair_shares(table, ring, 17)
        self.assertIsNone(pays_beyond(table, ring, 17, fair))
        group = [2, 5, 8, 19, 23]
        least, most = limits(table, ring, 17, group)
        for moved in (0, 1):
            # The group pays as much as it may, or the others so much more than they may.
            own = [Fraction(one) for one in shares_by(table, ring, 17, group + [p for p in ring if p not in group + [17]])]
            own[2] += Fraction(moved, 7)
            own[ring[0] if ring[0] not in group + [17] else ring[1]] -= Fraction(moved, 7)
            told = pays_beyond(table, ring, 17, [fraction(one) for one in own])
            if moved == 0:
                self.assertEqual(sum(own[place] for place in group), most)
                self.assertIsNone(told)
            else:
                paid = sum(own[place] for place in told[0])
                self.assertEqual(told[1], fraction(paid - costs(table, ring, 17, told[0])))
                self.assertGreaterEqual(Fraction(*told[1]), Fraction(1, 7))
        self.assertEqual(told[0], sorted(told[0]))

    def test_many_great_bottoms(self):
        bottoms = [10 ** 59 + k for k in range(1, 15)]
        shares = [(0, 1)] * 30
        for at, bottom in enumerate(bottoms):
            shares[2 * at + 1] = (at + 1, bottom)
            shares[2 * at + 2] = (-at - 1, bottom)
        told = pays_beyond(zeros(30), list(range(30)), 0, shares)
        self.assertEqual(told[0], list(range(1, 29, 2)))
        total = sum(Fraction(at + 1, bottom) for at, bottom in enumerate(bottoms))
        self.assertEqual(told[1], fraction(total))
        self.assertGreater(told[1][1], 10 ** 600)

    def test_wrong_shares(self):
        good = [(0, 1), (4, 1), (4, 1), (2, 1), (6, 1)]
        wrong = [None, True, (), tuple(good), good[:4], good + [(0, 1)], [], [(1, 1), (4, 1), (4, 1), (2, 1), (5, 1)]]
        for share in (None, 4, [4, 1], (4,), (4, 1, 1), (4, 0), (-4, -1), (4, True), (True, 1), ("4", 1), (4, None), "41",
                      (5, 1), (7, 1), (4, 2), ((4, 1), 1), ([4], 1), (9, 2)):
            wrong.append(good[:1] + [share] + good[2:])
        for share in (None, 0, (0, 0), (False, 1), (0, True), (0, -1), [0, 1], (0,)):
            wrong.append([share] + good[1:])
        for shares in wrong:
            self.assertRaises(InvalidShares, pays_beyond, FIVE, RING, 0, shares)
            self.assertRaises(InvalidShares, pays_beyond, FIVE, [0, 2, 1, 3, 4], 0, shares)
        self.assertRaises(InvalidShares, pays_beyond, FIVE, RING, 1, good)
        self.assertRaises(InvalidShares, pays_beyond, [[0]], [0], 0, [(1, 1)])

    def test_no_skip_ring(self):
        # The sum of the shares is the length of the trip through all places, here 0, 2, 1, 3, 4.
        length = 5 + 4 + 5 + 4 + 2
        other = [0, 2, 1, 3, 4]
        self.assertRaises(NotSkip, pays_beyond, FIVE, other, 0, [(0, 1), (length, 1), (0, 1), (0, 1), (0, 1)])
        self.assertRaises(InvalidShares, pays_beyond, FIVE, other, 0, [(0, 1), (16, 1), (0, 1), (0, 1), (0, 1)])


class Limits(unittest.TestCase):
    def test_over_all_shares(self):
        for table, ring, depot in straight_depots(93, range(1, 7), 1)[::3]:
            # All such shares lie between those by the sequences of joining.
            ends = [adding(table, ring, depot, list(one)) for one in permutations(others_of(table, depot))]
            for shares in ends[:3]:
                self.assertIsNone(pays_beyond(table, ring, depot, [(share, 1) for share in shares]))
            for group in groups_of(table, depot):
                sums = [sum(shares[place] for place in group) for shares in ends]
                self.assertEqual(exact(limits(table, ring, depot, list(group))), exact((min(sums), max(sums))))

    def test_bounds(self):
        self.assertEqual([limits([[0]], [0], 0, []), limits(FIVE, RING, 3, [])], [(0, 0), (0, 0)])
        self.assertEqual(limits(FIVE, RING, 0, [4, 2, 1, 3]), (16, 16))
        self.assertEqual(limits([[0, 6], [6, 0]], [0, 1], 0, [1]), (12, 12))

    def test_bending(self):
        for table, ring, depot in drawn_depots(94, range(3, 7), 3):
            pairs = bending_by_words(table, depot)
            for function, arguments in ((limits, [[]]), (even_steps, [])):
                if pairs:
                    with self.assertRaises(Bending) as caught:
                        function(table, ring, depot, *arguments)
                    self.assertEqual((caught.exception.one, caught.exception.other), pairs[0])
                    self.assertEqual((caught.exception.one, caught.exception.other), bending(table, ring, depot))
                else:
                    function(table, ring, depot, *arguments)

    def test_not_skip_comes_first(self):
        # The ring 0, 1, 2, 3 is none, and 1 and 3 bend about 0.
        table = [[0, 1, 1, 1], [1, 0, 1, 9], [1, 1, 0, 1], [1, 9, 1, 0]]
        self.assertRaises(Bending, limits, table, [0, 1, 2, 3], 0, [])
        self.assertRaises(Bending, even_steps, table, [0, 1, 2, 3], 0)
        self.assertRaises(NotSkip, limits, table, [0, 1, 3, 2], 0, [])
        self.assertRaises(NotSkip, even_steps, table, [0, 1, 3, 2], 0)
        self.assertRaises(InvalidStops, limits, table, [0, 1, 3, 2], 0, [0])

    def test_thirty_places(self):
        table = [[0 if one == other else GREATEST for other in range(30)] for one in range(30)]
        told = limits(table, list(range(30)), 29, list(range(14)))
        self.assertEqual(told, (14 * GREATEST, 15 * GREATEST))


class Even(unittest.TestCase):
    def by_words(self, table, ring, depot):
        """Group after group, each the greatest one of those that add least for each of their places."""
        ahead, steps = [], []
        while len(ahead) < len(table) - 1:
            left = [place for place in others_of(table, depot) if place not in ahead]
            rates = {}
            for group in subsets(left)[1:]:
                more = costs_by_words(table, ring, depot, [*ahead, *group])
                rates[group] = Fraction(more - costs_by_words(table, ring, depot, ahead), len(group))
            least = min(rates.values())
            group = max([group for group in rates if rates[group] == least], key=len)
            steps.append((fraction(least), list(group)))
            ahead += group
        return steps

    def test_by_words(self):
        several = 0
        for table, ring, depot in straight_depots(95, range(1, 8), 2):
            steps = even_steps(table, ring, depot)
            several += len(steps) > 2
            self.assertEqual(exact(steps), exact(self.by_words(table, ring, depot)))
            rates = [Fraction(top, bottom) for (top, bottom), _ in steps]
            self.assertEqual(rates, sorted(set(rates)))
            self.assertEqual(sorted(place for _, group in steps for place in group), others_of(table, depot))
        self.assertGreater(several, 20)

    def test_the_least_sum_of_squares(self):
        for table, ring, depot in straight_depots(96, range(2, 7), 1)[::2]:
            shares = [Fraction(0)] * len(table)
            for share, group in even_steps(table, ring, depot):
                for place in group:
                    shares[place] = Fraction(*share)
            self.assertIsNone(pays_beyond(table, ring, depot, [fraction(share) for share in shares]))
            # Towards no shares by which no group pays beyond does the sum of squares become less.
            for one in permutations(others_of(table, depot)):
                towards = adding(table, ring, depot, list(one))
                self.assertGreaterEqual(sum(share * (to - share) for share, to in zip(shares, towards)), 0)

    def test_few_places(self):
        self.assertEqual(even_steps([[0]], [0], 0), [])
        self.assertEqual(even_steps([[0, 7], [7, 0]], [0, 1], 1), [((14, 1), [0])])
        self.assertEqual(even_steps([[0, 1, 9], [1, 0, 9], [9, 9, 0]], [0, 1, 2], 0), [((2, 1), [1]), ((17, 1), [2])])

    def test_thirty_places(self):
        numbers = Numbers(97)
        ring = numbers.mixed(range(30))
        self.assertEqual(even_steps(zeros(30), ring, 4), [((0, 1), [p for p in range(30) if p != 4])])
        # Places on spokes of different lengths: each one pays for its own spoke alone.
        spokes = [GREATEST // 60 * place for place in range(30)]
        table = [[0 if one == other else spokes[one] + spokes[other] for other in range(30)] for one in range(30)]
        wanted = [((2 * spokes[place], 1), [place]) for place in range(1, 30)]
        self.assertEqual(even_steps(table, ring, 0), wanted)
        table = skip_table(numbers, ring, 60)
        shares = [(0, 1)] * 30
        for share, group in even_steps(table, ring, 9):
            self.assertEqual(group, sorted(group))
            for place in group:
                shares[place] = share
        self.assertIsNone(pays_beyond(table, ring, 9, shares))
        even, fair = fractions(shares), fractions(fair_shares(table, ring, 9))
        self.assertLessEqual(sum(share * share for share in even), sum(share * share for share in fair))

    def test_great_distances(self):
        for table, ring, depot in straight_depots(98, (4, 5), 1):
            great = [[distance * (GREATEST // 1000) for distance in row] for row in table]
            self.assertEqual(even_steps(great, ring, depot), self.by_words(great, ring, depot))

    def test_no_skip_ring(self):
        self.assertRaises(NotSkip, even_steps, SPLIT, RING, 0)


if __name__ == "__main__":
    unittest.main()
