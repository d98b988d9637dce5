"""[1] to [27] together: what the document says of one function, held against what it says of others."""

import unittest

from skipstops.amounts import bar_of, cut_amounts, heavy_cuts, is_bar, is_skip, place_amounts, table_with
from skipstops.changes import grown, left_out, new_spots, ring_without, shrunk, slack
from skipstops.choosing import adds, best_prizes, cheapest_stops, dearest_stops, most_stops
from skipstops.console import Console
from skipstops.far import far_trip, greatest_sum, longest_length, opposite_pairs, shows_far
from skipstops.finding import common_skip, count_skip, count_trips, nth_skip, possible_neighbours, shortest_length
from skipstops.finding import skip_index, skip_ring, sure_neighbours
from skipstops.live import LiveRing, SkipRing
from skipstops.rings import are_alike, around, around_length, is_ring, is_table, plain_ring, trip_length
from skipstops.shares import bending, costs, even_steps, fair_shares, limits, pays_beyond, shares_by
from skipstops.sources import crossing_cuts, ring_table, tree_table, walk_ring
from skipstops.texts import read_ring, read_shares, read_table, show_ring, show_shares, show_table
from tests.calls import drawn_call
from tests.tools import Numbers, beside, drawn_tables, drawn_tree, exact, lines_of, skip_pairs, subsets


def sources(seed):
    """Tables of trees and ring roads, each with the ring that is to be a skip ring of it."""
    numbers = Numbers(seed)
    found = []
    for count in (3, 4, 5, 6, 7, 8):
        for limit in (2, 9):
            roads = drawn_tree(numbers, count, limit)
            found.append((tree_table(count, roads), walk_ring(count, roads)))
            found.append((ring_table([numbers.below(limit) for _ in range(count)]), list(range(count))))
    return found


class Sources(unittest.TestCase):
    def test_rings_of_sources_are_skip_rings(self):
        for table, ring in sources(701):
            self.assertTrue(is_table(table) and is_ring(len(table), ring))
            self.assertIs(is_skip(table, ring), True)
            self.assertIsNone(bar_of(table, ring))
            self.assertIn(plain_ring(ring), [nth_skip(table, index) for index in range(count_skip(table))])
            self.assertEqual(trip_length(table, ring), shortest_length(table))
            # No way is a short cut, so no amount of a place is below 0, and no two places bend.
            self.assertGreaterEqual(min(place_amounts(table, ring)), 0)
            self.assertEqual([bending(table, ring, depot) for depot in ring], [None] * len(ring))
            self.assertEqual(SkipRing(table, ring).described()[2], "skip")

    def test_a_walk_goes_by_each_road_twice(self):
        numbers = Numbers(702)
        for count in range(1, 9):
            roads = drawn_tree(numbers, count, 9)
            table, ring = tree_table(count, roads), walk_ring(count, roads)
            self.assertEqual(trip_length(table, ring), 2 * sum(length for _, _, length in roads))
            # The heavy cuts of a tree's table are those of its roads that part two places or more from two or more.
            parted = {}
            for one, other, length in roads:
                side = {place for place in range(count) if table[place][one] + length == table[place][other]}
                if length and 2 <= len(side) <= count - 2:
                    cut = tuple(sorted(side if 0 not in side else set(range(count)) - side))
                    parted[cut] = parted.get(cut, 0) + 2 * length
            if all(length for _, _, length in roads):
                self.assertEqual(dict(heavy_cuts(table, ring)), parted)
            self.assertIsNone(crossing_cuts(table, ring))

    def test_common_rings(self):
        found = 0
        for table, ring in sources(703):
            again, ringed = ring_table([1] * len(table)), list(range(len(table)))
            common = common_skip([table, again])
            self.assertEqual(common is None, not is_skip(table, ringed))
            if common is not None:
                found += 1
                self.assertTrue(are_alike(common, ringed))
            self.assertEqual(plain_ring(common_skip([table, table])), skip_ring(table))
        self.assertGreater(found, 4)


class Whole(unittest.TestCase):
    def test_amounts_make_the_table(self):
        for table, ring in skip_pairs(704, range(1, 8), 2) + sources(705):
            self.assertEqual(table_with(ring, place_amounts(table, ring), cut_amounts(table, ring)), table)
            self.assertEqual(table_with(ring, place_amounts(table, ring), heavy_cuts(table, ring)), table)
            for index in range(min(count_skip(table), 3)):
                other = nth_skip(table, index)
                self.assertEqual(heavy_cuts(table, other), heavy_cuts(table, ring))
                self.assertEqual(crossing_cuts(table, other), crossing_cuts(table, ring))
                self.assertEqual(table_with(other, place_amounts(table, other), heavy_cuts(table, ring)), table)

    def test_rings_and_neighbours(self):
        for table, ring in skip_pairs(706, range(1, 7), 3):
            rings = [nth_skip(table, index) for index in range(count_skip(table))]
            self.assertEqual([skip_index(table, one) for one in rings], list(range(len(rings))))
            self.assertEqual(rings, sorted(rings))
            self.assertEqual(count_trips(table, ring), len(rings))
            self.assertEqual(sure_neighbours(table), sorted(set.intersection(*[beside(one) for one in rings])))
            self.assertEqual(possible_neighbours(table), sorted(set.union(*[beside(one) for one in rings])))
            self.assertEqual(LiveRing(table, rings[0]).twin() == LiveRing(table, ring), are_alike(rings[0], ring))

    def test_trips_and_what_is_chosen(self):
        for table, ring in skip_pairs(707, (1, 3, 5, 6), 2):
            count = len(ring)
            for stops in subsets(ring)[1:]:
                stops = list(stops)
                length = around_length(table, ring, stops)
                self.assertEqual(length, trip_length(table, around(ring, stops)))
                self.assertLessEqual(cheapest_stops(table, ring, len(stops))[0], length)
                self.assertGreaterEqual(dearest_stops(table, ring, len(stops))[0], length)
                self.assertGreaterEqual(most_stops(table, ring, length)[0], len(stops))
                for place in range(count):
                    more = sorted({*stops, place})
                    self.assertEqual(adds(table, ring, stops, place), around_length(table, ring, more) - length)
                if len(stops) % 2:
                    self.assertTrue(shows_far(table, ring, stops, far_trip(ring, stops)))
                    self.assertEqual(longest_length(table, ring, stops), trip_length(table, far_trip(ring, stops)))
                else:
                    pairs = opposite_pairs(ring, stops)
                    self.assertTrue(shows_far(table, ring, stops, pairs))
                    self.assertEqual(greatest_sum(table, ring, stops), sum(table[one][other] for one, other in pairs))
            prizes = [3 + 2 * place for place in range(count)]
            worth, stops = best_prizes(table, ring, prizes)
            if stops:
                self.assertEqual(worth, sum(prizes[place] for place in stops) - around_length(table, ring, stops))

    def test_shares(self):
        for table, ring in skip_pairs(708, (1, 2, 4, 6), 3) + sources(709):
            for depot in (0, len(ring) - 1):
                others = [place for place in ring if place != depot]
                shares = fair_shares(table, ring, depot)
                self.assertEqual(costs(table, ring, depot, others), trip_length(table, ring))
                self.assertEqual(sum(shares_by(table, ring, depot, others)), trip_length(table, ring))
                if bending(table, ring, depot) is None:
                    self.assertIsNone(pays_beyond(table, ring, depot, shares))
                    even = [None] * len(ring)
                    even[depot] = (0, 1)
                    for share, group in even_steps(table, ring, depot):
                        for place in group:
                            even[place] = share
                    self.assertIsNone(pays_beyond(table, ring, depot, even))
                    for place in others:
                        least, most = limits(table, ring, depot, [place])
                        for told in (shares, even):
                            self.assertTrue(least * told[place][1] <= told[place][0] <= most * told[place][1])

    def test_changes(self):
        for table, ring in skip_pairs(710, (2, 3, 5, 6), 2):
            live = LiveRing(table, ring)
            self.assertEqual(left_out(table, ring), [])
            for one in ring:
                for other in ring:
                    if one != other:
                        self.check_slack(live, one, other)
                told = new_spots(table, ring, table[one])
                tries = [live.tried(("add", table[one], at)) for at in range(len(ring))]
                self.assertEqual(tries, [[at in told] for at in range(len(ring))])
                self.assertEqual(live.tried(("drop", one)), [is_skip(shrunk(table, one), ring_without(ring, one))])
                self.assertIs(SkipRing(table, ring).drop(one), True)

    def check_slack(self, live, one, other):
        least, greatest = slack(live.table, live.ring, one, other)
        self.assertEqual(live.tried(("change", one, other, least)), [True])
        if least > 0:
            self.assertEqual(live.tried(("change", one, other, least - 1)), [False])
        if greatest is not None:
            self.assertEqual(live.tried(("change", other, one, greatest), ("change", one, other, greatest + 1)), [True, False])

    def test_bars(self):
        for table in drawn_tables(711, (4, 5, 6, 7), 2):
            ring = list(range(len(table)))
            bar = bar_of(table, ring)
            self.assertEqual(bar is None, is_skip(table, ring))
            if bar is not None:
                self.assertTrue(is_bar(table, ring, bar))
                # The four places alone have another ring for a skip ring.
                live = LiveRing(table, ring)
                for place in reversed([one for one in ring if one not in bar]):
                    live.drop(place)
                self.assertEqual([live.is_skip, left_out(live.table, live.ring)], [False, [0]])


class Told(unittest.TestCase):
    """Live rings and consoles answer as the functions do, and texts are read back."""

    def test_live_rings_and_consoles(self):
        numbers = Numbers(712)
        for table, ring in skip_pairs(713, (1, 3, 4, 5), 2):
            live, console = LiveRing(table, ring), Console()
            console.execute(" ".join(["table", "; ".join(lines_of(table))]).rstrip())
            console.execute(f"turn {show_ring(ring)}")
            for _ in range(10):
                name, arguments = drawn_call(numbers, live.table, live.ring, 9)
                if len(live) > 6:
                    name, arguments = "drop", [numbers.below(len(live))]
                tried = live.tried((name, *arguments))
                self.assertEqual(tried, [getattr(live, name)(*arguments)])
                told = console.execute(self.command_of(name, arguments))
                self.assertEqual(told, "skip" if is_skip(live.table, live.ring) else "bar")
                self.check(live, console)

    def command_of(self, name, arguments):
        words = [str(one) for one in arguments]
        if name == "turn":
            words = [show_ring(arguments[0])]
        if name == "add":
            words = [str(arguments[1])] + [str(distance) for distance in arguments[0]]
        return " ".join([name, *words])

    def check(self, live, console):
        table, ring = live.table, live.ring
        self.assertEqual([live.is_skip, live.length, len(live)], [is_skip(table, ring), trip_length(table, ring), len(table)])
        self.assertEqual(read_ring(len(ring), console.execute("ring")), ring)
        shown = console.execute("show")
        self.assertEqual(read_table("" if shown == "none" else shown.replace("; ", "\n")), table)
        self.assertEqual(console.execute("length"), f"{live.length}")
        self.assertEqual(console.execute("rings"), f"{count_skip(table)}")
        found = skip_ring(table)
        self.assertEqual(console.execute("find"), "none" if found is None else show_ring(found))
        if live.is_skip:
            shares = fair_shares(table, ring, 0)
            if min(top for top, _ in shares) >= 0:
                self.assertEqual(read_shares(len(ring), console.execute("shares 0")), shares)
            words = [word for word in console.execute("cuts").split(" ") if word != "none"]
            cuts = [tuple(tuple(map(int, part.split(","))) for part in word.split(":")) for word in words]
            self.assertEqual([(cut, amount) for cut, (amount,) in cuts], heavy_cuts(table, ring))

    def test_texts(self):
        for table, ring in sources(714) + skip_pairs(715, (1, 2, 9), 2):
            self.assertEqual(exact(read_table(show_table(table))), exact(table))
            self.assertEqual(exact(read_ring(len(ring), show_ring(ring))), exact(ring))
            self.assertEqual(grown(read_table(show_table(table)), [1] * len(table))[:-1],
                             [row + [1] for row in table])
            if bending(table, ring, 0) is None and min(place_amounts(table, ring)) >= 0:
                shares = fair_shares(table, ring, 0)
                self.assertEqual(exact(read_shares(len(ring), show_shares(shares))), exact(shares))


if __name__ == "__main__":
    unittest.main()
