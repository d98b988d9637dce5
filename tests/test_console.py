"""[27]: the console and each of its commands."""

import unittest
from itertools import combinations, permutations

from skipstops.amounts import heavy_cuts
from skipstops.changes import slack
from skipstops.choosing import cheapest_stops
from skipstops.console import Console
from skipstops.errors import InvalidCommand, InvalidIndex, InvalidNumber, InvalidPlace, InvalidRow, InvalidShares
from skipstops.errors import LastPlace, NotSkip, NothingToUndo, RingError, TooLarge
from skipstops.shares import fair_shares
from skipstops.texts import show_shares
from tests.calls import SlowLive, drawn_call
from tests.tools import FIVE, GREATEST, Numbers, RING, bars_by_words, closed_length, drawn_tables, exact, in_ring_sequence
from tests.tools import lines_of, plain_trips, rings_by_words, skip_pairs, subsets, zeros

FIVE_LINES = "3; 5 4; 4 5 3; 2 3 5 4"
SPLIT_LINES = "2; 1 1; 1 1 2; 1 1 2 2"
# What tells of a console without changing it, also if the ring is no skip ring or there are many places.
SHOWN = ["show", "ring", "length"]
# Words that are no numbers, though some look like one.
NO_NUMBERS = ["-1", "+1", "01", "00", "1.0", "a", "one", "1a", "0x1", "1_0", "1,", ",", "1;", "-", "/", "1/2", "1-0", "None",
              "none", "\t", "1\t", "1\r", "\u0661", "\u00b2", "1\u00a0", "0" * 61, "1" + "0" * 60, "9" * 5000]
NO_STRINGS = [None, True, False, 0, 1, b"show", b"", [], ["show"], (), ("show",), {}, {"show": 1}, set(), object(), [["show"]]]
# For each command but `table`: right words behind it for five places, and how many more words it takes.
WORDS = {
    "turn": ["0-2-1-3-4"], "change": ["0", "1", "2"], "add": ["4", "2", "3", "5", "4", "2"], "drop": ["1"], "undo": [],
    "show": [], "ring": [], "length": [], "around": ["3,0,2"], "cuts": [], "rings": [], "find": [], "far": ["0,1,2,3"],
    "cheapest": ["3"], "shares": ["0"], "slack": ["2", "3"],
}


def lines(table):
    return "; ".join(lines_of(table))


def five():
    """A console with five places and one call to take back."""
    console = Console()
    console.execute(f"table {FIVE_LINES}")
    console.execute("turn 2-3-4-0-1")
    return console


class Commands(unittest.TestCase):
    def state(self, console):
        """What a console tells of itself, with all calls that it can take back."""
        told = [console.execute(command) for command in SHOWN]
        log = []
        while True:
            try:
                log.append([console.execute("undo")] + [console.execute(command) for command in SHOWN])
            except NothingToUndo:
                return [told, log]

    def assertRaisesOnly(self, error, make, command):
        """A command raises this very error, and a console is as another one to which it was not told."""
        console = make()
        with self.subTest(command=command):
            with self.assertRaises(RingError) as caught:
                console.execute(command)
            self.assertIs(type(caught.exception), error)
            self.assertEqual(self.state(console), self.state(make()))

    def console_with(self, table, ring):
        console = Console()
        console.execute(f"table {lines(table)}" if len(table) > 1 else "table")
        console.execute("turn " + "-".join(map(str, ring)))
        return console


class Changes(Commands):
    def test_at_first(self):
        console = Console()
        self.assertEqual([console.execute(one) for one in SHOWN], ["none", "0", "0"])
        self.assertEqual([console.execute(one) for one in ("cuts", "rings", "find")], ["none", "1", "0"])
        self.assertEqual([console.execute(one) for one in ("around 0", "far 0", "cheapest 1", "shares 0")], ["0", "0", "0", "0"])
        self.assertEqual([console.execute("add 0 7"), console.execute("show"), console.execute("ring")], ["skip", "7", "0-1"])
        self.assertEqual([console.execute("undo"), console.execute("show")], ["skip", "none"])
        self.assertRaises(NothingToUndo, console.execute, "undo")

    def test_by_words(self):
        numbers = Numbers(601)
        for table in drawn_tables(602, (1, 2, 3, 4, 5), 2):
            count = len(table)
            slow, console = SlowLive(table, list(range(count))), Console()
            told = console.execute(f"table {lines(table)}" if count > 1 else "table")
            self.assertEqual(told, "bar" if bars_by_words(table, list(range(count))) else "skip")
            for _ in range(12):
                if slow.log and numbers.below(4) == 0:
                    command, wanted = "undo", slow.undo()
                elif len(slow.stands[-1][1]) < 8:
                    name, arguments = drawn_call(numbers, *slow.stands[-1], 9)
                    wanted = slow.call(name, arguments)
                    command = self.command_of(name, arguments)
                self.assertEqual(exact(console.execute(command)), exact("skip" if wanted else "bar"))
                self.check_shown(console, *slow.stands[-1])

    def command_of(self, name, arguments):
        if name == "add":
            return " ".join(["add", str(arguments[1]), *map(str, arguments[0])])
        if name == "turn":
            return "turn " + "-".join(map(str, arguments[0]))
        return " ".join([name, *map(str, arguments)])

    def check_shown(self, console, table, ring):
        self.assertEqual(console.execute("show"), lines(table) if len(table) > 1 else "none")
        self.assertEqual(console.execute("ring"), "-".join(map(str, ring)))
        self.assertEqual(console.execute("length"), f"{closed_length(table, ring)}")

    def test_tables(self):
        console = five()
        self.assertEqual([console.execute(one) for one in SHOWN], [FIVE_LINES, "2-3-4-0-1", "16"])
        # A new one has the ring in sequence and no call to take back.
        self.assertEqual([console.execute("table 7"), console.execute("show"), console.execute("ring")], ["skip", "7", "0-1"])
        self.assertRaises(NothingToUndo, console.execute, "undo")
        self.assertEqual([console.execute("table"), console.execute("show"), console.execute("ring")], ["skip", "none", "0"])
        self.assertEqual([console.execute(f"table {SPLIT_LINES}"), console.execute("length")], ["bar", "8"])
        self.assertEqual(console.execute(f"table {lines(FIVE)}"), "skip")

    def test_thirty_places(self):
        great = [[0 if one == other else GREATEST for other in range(30)] for one in range(30)]
        console = Console()
        self.assertEqual([console.execute(f"table {lines(great)}"), console.execute("length")], ["skip", f"{30 * GREATEST}"])
        self.assertEqual([console.execute("show"), console.execute("cuts")], [lines(great), "none"])
        self.assertRaises(TooLarge, console.execute, "add 0" + " 1" * 30)
        self.assertEqual([console.execute("drop 29"), console.execute("add 0" + " 1" * 29)], ["skip", "skip"])
        self.assertEqual(console.execute("ring"), "0-29-" + "-".join(map(str, range(1, 29))))

    def test_errors_of_the_calls(self):
        for command, error in [
            ("change 0 0 5", InvalidPlace), ("change 5 0 1", InvalidPlace), ("change 0 5 1", InvalidPlace),
            (f"change 0 1 {GREATEST + 1}", InvalidNumber), ("change 0 1 " + "9" * 60, InvalidNumber),
            ("change 9 9 " + "9" * 60, InvalidPlace), ("change 0 " + "9" * 60 + " 1", InvalidPlace),
            ("add 0 1 2 3 4", InvalidRow), ("add 0 1 2 3 4 5 6", InvalidRow), ("add 9 1", InvalidRow),
            (f"add 9 1 2 3 4 {GREATEST + 1}", InvalidRow), ("add 5 1 2 3 4 5", InvalidIndex),
            ("add " + "9" * 60 + " 1 2 3 4 5", InvalidIndex), ("drop 5", InvalidPlace), ("drop " + "9" * 60, InvalidPlace),
        ]:
            self.assertRaisesOnly(error, five, command)
        self.assertRaisesOnly(LastPlace, Console, "drop 0")
        self.assertRaisesOnly(InvalidPlace, Console, "drop 1")
        self.assertRaisesOnly(NothingToUndo, Console, "undo")

    def test_consoles_are_apart(self):
        one, other = five(), five()
        one.execute("drop 0")
        self.assertEqual([one.execute("ring"), other.execute("ring")], ["1-2-3-0", "2-3-4-0-1"])

    def test_by_name(self):
        self.assertEqual(Console().execute(command="ring"), "0")


class Answers(Commands):
    def test_by_words(self):
        for table, ring in skip_pairs(603, (1, 2, 3, 4, 6), 2):
            console = self.console_with(table, ring)
            count = len(ring)
            heavy = " ".join(",".join(map(str, cut)) + f":{amount}" for cut, amount in heavy_cuts(table, ring))
            self.assertEqual(console.execute("cuts"), heavy or "none")
            rings = rings_by_words(table)
            self.assertEqual([console.execute("rings"), console.execute("find")], [f"{len(rings)}", "-".join(map(str, rings[0]))])
            for stops in subsets(range(count))[1:]:
                word = ",".join(map(str, reversed(stops)))
                self.assertEqual(console.execute(f"around {word}"), f"{closed_length(table, in_ring_sequence(ring, stops))}")
                self.assertEqual(console.execute(f"far {word}"), f"{self.far_by_words(table, stops)}")
            for many in range(1, count + 1):
                self.assertEqual(console.execute(f"cheapest {many}"), ",".join(map(str, cheapest_stops(table, ring, many)[1])))
            for one, other in permutations(range(count), 2):
                least, greatest = slack(table, ring, one, other)
                wanted = f"{least} none" if greatest is None else f"{least} {greatest}"
                self.assertEqual(console.execute(f"slack {one} {other}"), wanted)
            for depot in range(count):
                self.check_shares(console, table, ring, depot)

    def far_by_words(self, table, stops):
        if len(stops) % 2:
            return max(closed_length(table, trip) for trip in plain_trips(stops))
        sums = []
        for trip in permutations(stops):
            pairs = [(trip[at], trip[at + 1]) for at in range(0, len(trip), 2)]
            sums.append(sum(table[one][other] for one, other in pairs))
        return max(sums)

    def check_shares(self, console, table, ring, depot):
        shares = fair_shares(table, ring, depot)
        if min(top for top, _ in shares) < 0:
            self.assertRaises(InvalidShares, console.execute, f"shares {depot}")
        else:
            self.assertEqual(console.execute(f"shares {depot}"), show_shares(shares))

    def test_none(self):
        console = Console()
        self.assertEqual([console.execute("show"), console.execute("cuts")], ["none", "none"])
        console.execute("table 1; 1 1")
        self.assertEqual([console.execute("cuts"), console.execute("slack 0 1"), console.execute("rings")], ["none", "0 none", "1"])
        console.execute("table 4; 9 4; 4 7 4")
        self.assertEqual([console.execute("slack 0 2"), console.execute("slack 0 1")], ["1 none", "0 12"])
        console.execute(f"table {SPLIT_LINES}")
        self.assertEqual([console.execute("find"), console.execute("rings")], ["none", "0"])

    def test_a_share_below_0(self):
        console = Console()
        # The place 1 lies on the way, and further than that.
        self.assertEqual(console.execute("table 1; 9 1"), "skip")
        self.assertEqual(fair_shares([[0, 1, 9], [1, 0, 1], [9, 1, 0]], [0, 1, 2], 0)[1], (-5, 2))
        self.assertRaisesOnly(InvalidShares, lambda: self.console_with([[0, 1, 9], [1, 0, 1], [9, 1, 0]], RING[:3]), "shares 0")
        self.assertEqual(console.execute("shares 1"), "11/2 0 11/2")

    def test_a_ring_that_is_none(self):
        def barred():
            console = five()
            console.execute("turn 0-2-1-3-4")
            return console

        for command in ("cuts", "far 0,1,2,3", "far 0", "cheapest 3", "shares 0", "slack 2 3"):
            self.assertRaisesOnly(NotSkip, barred, command)
        # The parameters come first.
        for command, error in [("cheapest 0", InvalidNumber), ("cheapest 6", InvalidNumber), ("shares 5", InvalidPlace),
                               ("slack 2 2", InvalidPlace), ("slack 5 0", InvalidPlace), ("slack 0 5", InvalidPlace)]:
            self.assertRaisesOnly(error, barred, command)
            self.assertRaisesOnly(error, five, command)
        console = barred()
        self.assertEqual([console.execute(one) for one in ("around 0,1,2,3", "rings", "find")], ["18", "2", "0-1-2-3-4"])

    def test_eleven_places(self):
        def eleven():
            return self.console_with(zeros(11), list(range(11)))

        for command in ("rings", "find"):
            self.assertRaisesOnly(TooLarge, eleven, command)
            with self.assertRaises(TooLarge) as caught:
                eleven().execute(command)
            self.assertEqual(caught.exception.limit, 10)
        self.assertEqual([eleven().execute("cuts"), eleven().execute("cheapest 11")], ["none", "0,1,2,3,4,5,6,7,8,9,10"])
        console = self.console_with(zeros(10), list(range(10)))
        self.assertEqual([console.execute("rings"), console.execute("find")], ["181440", "0-1-2-3-4-5-6-7-8-9"])

    def test_great_numbers(self):
        console = Console()
        console.execute(f"table {GREATEST}; {GREATEST} {GREATEST}; " + " ".join([f"{GREATEST}"] * 3))
        self.assertEqual([console.execute("around 0,1"), console.execute("far 3,0,2,1")], [f"{2 * GREATEST}"] * 2)
        self.assertEqual([console.execute("slack 0 1"), console.execute("slack 0 2")], [f"0 {GREATEST}", f"{GREATEST} none"])
        for command, error in [("cheapest " + "9" * 60, InvalidNumber), ("shares " + "9" * 60, InvalidPlace),
                               ("slack 0 " + "9" * 60, InvalidPlace)]:
            self.assertRaises(error, console.execute, command)

    def test_answers_change_nothing(self):
        console = five()
        for command in ["around 3,0,2", "cuts", "rings", "find", "far 0,1,2,3", "far 0,1,2", "cheapest 3", "shares 0", "slack 2 3"]:
            self.assertEqual(console.execute(command), console.execute(command))
        self.assertEqual(self.state(console), self.state(five()))


class Forms(Commands):
    def wrong(self, command):
        self.assertRaisesOnly(InvalidCommand, five, command)

    def test_the_words_are_right(self):
        for word, rest in WORDS.items():
            self.assertIsInstance(five().execute(" ".join([word, *rest])), str)

    def test_no_strings(self):
        for value in NO_STRINGS:
            self.wrong(value)

    def test_other_words(self):
        for command in ["", " ", "\n", "Show", "SHOW", "shows", "sho", "help", "none", "0", "tables", "execute", "live", "-",
                        "show;", "show,", "1 show", "is_skip", "twin", "tried", "log", "Table 3", "most", "skip", "turns 0-1"]:
            self.wrong(command)

    def test_too_few_and_too_many_words(self):
        for word, rest in WORDS.items():
            # A shorter row is a row, too: what is wrong with it is another thing.
            for many in range(2 if word == "add" else len(rest)):
                self.wrong(" ".join([word, *rest[:many]]))
            if word != "add":
                for more in ("0", "1", "x", "0-1-2-3-4", word):
                    self.wrong(" ".join([word, *rest, more]))

    def test_spaces(self):
        for word, rest in list(WORDS.items()) + [("table", FIVE_LINES.split(" ")), ("table", ["3"]), ("table", [])]:
            words = [word, *rest]
            self.wrong(" " + " ".join(words))
            self.wrong(" ".join(words) + " ")
            self.wrong(" ".join(words) + "\n")
            self.wrong("\n" + " ".join(words))
            for at in range(1, len(words)):
                for sign in ("  ", "\n", "\t", " \n", "\r", "\u00a0"):
                    self.wrong(" ".join(words[:at]) + sign + " ".join(words[at:]))

    def test_wrong_numbers(self):
        for word, rest in WORDS.items():
            if all(one.isdigit() for one in rest):
                for at in range(len(rest)):
                    for wrong in NO_NUMBERS:
                        self.wrong(" ".join([word, *rest[:at], wrong, *rest[at + 1:]]))
                    # The form of a command comes ahead of what its numbers are.
                    others = ["9"] * at + ["x"] + ["9"] * (len(rest) - at - 1)
                    self.wrong(" ".join([word, *others]))

    def test_wrong_rings(self):
        for ring in ["0", "0-1-2-3", "0-1-2-3-4-5", "0-1-2-3-3", "1-2-3-4-5", "0-1-2-3-04", "0,1,2,3,4", "0-1-2-3-", "-0-1-2-3-4",
                     "0--1-2-3-4", "01234", "0-1-2-3-x", "0-1-2-3-" + "9" * 61, "0-1-2-3-" + "0" * 60, "none", "0 1 2 3 4"]:
            self.wrong(f"turn {ring}")

    def test_wrong_stops(self):
        for word in ("around", "far"):
            for stops in ["5", "0,5", "0,0", "0,1,0", "0,", ",0", ",", "0,,1", "00", "0,01", "0-1", "0;1", "a", "0,a", "-1", "0,-1", "+1",
                          "0,1,2,3,4,5", "0,1,2,3,4,4", "0,\u0661", "0,1/1", "9" * 60, "0," + "9" * 61, "none", "0, 1", "0 1", "[0]"]:
                self.wrong(f"{word} {stops}")

    def test_wrong_lines(self):
        for told in ["3; 5", "3; 5 4 4", "3 3", "3;5 4", "3 ;5 4", "3 ; 5 4", "3;", "3; ", ";", "; 3", "; ", "3;; 5 4", "3; ; 5 4",
                     "3\n5 4", "3;\n5 4", "3\n; 5 4", "03", "-3", "x", "none", "3; 5 x", "3; 5 04", "3, 5 4", "3; 5, 4", "0.5",
                     f"{GREATEST + 1}", "9" * 60, "1" * 61, f"3; 5 {GREATEST + 1}", "[0]", "3; 5 4;"]:
            self.wrong(f"table {told}")
        self.wrong(f"table {lines(zeros(31))}")
        self.wrong(f"table {lines(zeros(30))}; 0")
        self.wrong("table\n")
        self.assertEqual(Console().execute(f"table {lines(zeros(30))}"), "skip")

    def test_rings_and_stops_are_of_the_places_that_there_are(self):
        console = five()
        console.execute("drop 4")
        for command in ("turn 0-1-2-3-4", "around 4", "far 0,4", "around 0,1,2,4"):
            self.assertRaises(InvalidCommand, console.execute, command)
        console.execute("undo")
        console.execute("add 0 1 2 3 4 5")
        self.assertEqual([console.execute("around 5"), console.execute("turn 5-4-3-2-1-0")], ["0", "bar"])

    def test_strings_of_another_class(self):
        class Text(str):
            pass
        self.assertEqual(five().execute(Text("length")), "16")

    def test_all_pairs_of_commands(self):
        for one, other in combinations(WORDS, 2):
            self.wrong(f"{one}{other}")


if __name__ == "__main__":
    unittest.main()
