"""[26]: the texts of tables, rings and shares."""

import unittest
from itertools import permutations, product
from math import gcd

from skipstops.errors import InvalidCount, InvalidRing, InvalidShares, InvalidTable, InvalidText
from skipstops.shares import fair_shares
from skipstops.texts import read_ring, read_shares, read_table, show_ring, show_shares, show_table
from tests.tools import FIVE, GREATEST, Numbers, RING, any_table, drawn_tables, exact, lines_of, lists_in, skip_pairs
from tests.tools import zeros

NO_TEXTS = [None, True, False, 0, 1, b"", b"0", [], ["0"], (), ("0",), {}, {"0": 0}, set(), object(), [[0]], 10 ** 59]
NO_COUNTS = [None, True, False, 0, -1, 31, 10 ** 59, "3", "", [3], (3,), object()]
# What stands where a number should, in a text: zeros in front, signs, other digits, other letters.
NO_NUMBERS = ["", " ", "00", "01", "007", "-1", "-0", "+1", "1.0", "1e3", "0x1", "1_0", "a", "one", "1a", "a1", "?", "\n",
              "1\n", "\t1", "1\r", "\u0661", "\u00b2", "\uff11", "1\u00a0", "1\u2028", "None", "1,", ";", "1;", "/", "1/2",
              "0" * 60, "0" * 61, "1" + "0" * 60, "9" * 61, "1" * 5000]


class Texts(unittest.TestCase):
    def raised_number(self, function, *arguments):
        """The number of the line for which InvalidText is raised."""
        with self.assertRaises(InvalidText, msg=f"{function.__name__} {arguments}") as caught:
            function(*arguments)
        return exact(caught.exception.number)

    def assertWrong(self, number, function, *arguments):
        self.assertEqual(self.raised_number(function, *arguments), exact(number))


class Tables(Texts):
    def test_by_words(self):
        numbers = Numbers(501)
        tables = drawn_tables(502, range(1, 9), 2) + [any_table(numbers, 30, 10 ** 9), zeros(30), zeros(1), zeros(2)]
        for table in tables + [[[0 if one == other else GREATEST for one in range(30)] for other in range(30)]]:
            text = show_table(table)
            self.assertEqual(exact(text), exact("\n".join(lines_of(table))))
            self.assertEqual(exact(read_table(text)), exact(table))

    def test_few_places(self):
        self.assertEqual([show_table([[0]]), read_table("")], ["", [[0]]])
        self.assertEqual([show_table([[0, 7], [7, 0]]), read_table("7")], ["7", [[0, 7], [7, 0]]])
        self.assertEqual(read_table("0\n0 0"), zeros(3))
        self.assertEqual(read_table(f"{GREATEST}"), [[0, GREATEST], [GREATEST, 0]])

    def test_the_empty_text_alone_has_no_line(self):
        for text in ("\n", "\n\n", "\n3", " ", "\n3\n5 4"):
            self.assertWrong(0, read_table, text)
        for text in ("3\n", "3\n\n", "3\n\n5 4", "3\n \n"):
            self.assertWrong(1, read_table, text)
        self.assertWrong(2, read_table, "3\n5 4\n")

    def test_no_strings(self):
        for value in NO_TEXTS:
            self.assertWrong(None, read_table, value)

    def test_wrong_numbers(self):
        for word in NO_NUMBERS + [f"{GREATEST + 1}", "9" * 60, "1" + "0" * 59]:
            # The number of the first wrong line; a word with a newline ends a line.
            if word != "":
                self.assertWrong(1 if word == "1\n" else 0, read_table, word)
            self.assertWrong(1, read_table, f"3\n{word} 4")
            self.assertWrong(2 if word == "1\n" else 1, read_table, f"3\n5 {word}")
            self.assertWrong(1, read_table, f"3\n{word} 4\n{word}")
            self.assertWrong(3 if word == "1\n" else 2, read_table, f"3\n5 4\n1 2 {word}")

    def test_wrong_numbers_of_distances(self):
        lines = lines_of(any_table(Numbers(503), 30, 10))
        for at in range(29):
            for line in (lines[at] + " 1", lines[at][2:], lines[at] + " ", " " + lines[at]):
                self.assertWrong(at, read_table, "\n".join(lines[:at] + [line] + lines[at + 1:]))
            if at > 0:
                self.assertWrong(at, read_table, "\n".join(lines[:at] + [lines[at].replace(" ", "  ", 1)] + lines[at + 1:]))
                # The first wrong line is told, whatever stands behind it.
                self.assertWrong(at, read_table, "\n".join(lines[:at] + ["x"] * (31 - at)))

    def test_the_last_line(self):
        lines = lines_of(any_table(Numbers(504), 31, 10))
        self.assertEqual(len(read_table("\n".join(lines[:29]))), 30)
        self.assertEqual(show_table(read_table("\n".join(lines[:29]))), "\n".join(lines[:29]))
        self.assertWrong(29, read_table, "\n".join(lines))
        self.assertWrong(29, read_table, "\n".join(lines[:29]) + "\n")
        self.assertWrong(29, read_table, "\n".join(lines) + "\n\n1")
        self.assertWrong(28, read_table, "\n".join(lines[:28] + [lines[27]] + lines[29:]))
        self.assertWrong(28, read_table, "\n".join(lines[:28]) + "\n")

    def test_distances_beyond(self):
        self.assertEqual(read_table(f"0\n0 {GREATEST}")[2], [0, GREATEST, 0])
        self.assertWrong(1, read_table, f"0\n0 {GREATEST + 1}")
        self.assertWrong(1, read_table, f"0\n{'9' * 60} 0\nx")

    def test_no_tables(self):
        for table in (None, [], [[1]], [[0, 1], [2, 0]], [[0, True], [True, 0]], zeros(31), tuple(FIVE), "3", [[0, -1], [-1, 0]]):
            self.assertRaises(InvalidTable, show_table, table)

    def test_lists_are_new(self):
        table = read_table("0\n0 0")
        self.assertEqual(len({id(one) for one in lists_in(table)}), 4)
        table[0].append(1)
        self.assertEqual(read_table("0\n0 0"), zeros(3))


class Rings(Texts):
    def test_by_words(self):
        for count in range(1, 6):
            for ring in permutations(range(count)):
                text = "-".join(f"{place}" for place in ring)
                self.assertEqual(exact([show_ring(list(ring)), read_ring(count, text)]), exact([text, list(ring)]))
        ring = Numbers(505).mixed(range(30))
        self.assertEqual(read_ring(30, show_ring(ring)), ring)
        self.assertEqual(show_ring(list(range(11))), "0-1-2-3-4-5-6-7-8-9-10")

    def test_other_strings(self):
        wrong = ["", "-", "0", "0-1", "0-1-2-3", "0-1-1", "1-2-3", "0-1-3", "0-1--2", "-0-1-2", "0-1-2-", "0 1 2", "0,1,2",
                 "0-1-02", "00-1-2", "0- 1-2", " 0-1-2", "0-1-2 ", "0-1-2\n", "0-1\n-2", "0-1-+2", "a-b-c", "0-1-\u0662", "012",
                 "0--1-2", "0-1-2-0", "[0, 1, 2]", "0-1-" + "0" * 61, "0-1-2" + "0" * 60]
        for text in wrong:
            with self.subTest(text):
                self.assertWrong(0, read_ring, 3, text)
        for word in NO_NUMBERS:
            self.assertWrong(0, read_ring, 2, f"0-{word}")
            self.assertWrong(0, read_ring, 2, f"{word}-0")
        for text in ("1", "00", "0-0", "", "0-1"):
            self.assertWrong(0, read_ring, 1, text)
        self.assertEqual(read_ring(1, "0"), [0])

    def test_errors_in_their_sequence(self):
        for value in NO_TEXTS:
            self.assertWrong(None, read_ring, 3, value)
            self.assertWrong(None, read_shares, 3, value)
        for count in NO_COUNTS:
            for text in ("0-1-2", "", None):
                self.assertRaises(InvalidCount, read_ring, count, text)
                self.assertRaises(InvalidCount, read_shares, count, text)

    def test_no_rings(self):
        for ring in (None, [], [1], [0, 0], [0, True], [False], (0, 1), "0-1", list(range(31)), [0, 2], {0}, 0):
            self.assertRaises(InvalidRing, show_ring, ring)


class Shares(Texts):
    def text_by_words(self, share):
        top, bottom = (part // gcd(*share) for part in share)
        return f"{top}" if bottom == 1 else f"{top}/{bottom}"

    def test_by_words(self):
        fractions = list(product(range(7), range(1, 7)))
        self.assertEqual(show_shares(fractions[:30]), " ".join(self.text_by_words(share) for share in fractions[:30]))
        texts = {self.text_by_words(share): tuple(part // gcd(*share) for part in share) for share in fractions}
        for top, bottom in fractions:
            self.assertEqual(show_shares([(top, bottom)]), self.text_by_words((top, bottom)))
            for text in (f"{top}/{bottom}", f"{top}"):
                if text in texts:
                    self.assertEqual(exact(read_shares(1, text)), exact([texts[text]]))
                else:
                    self.assertWrong(0, read_shares, 1, text)
            self.assertWrong(0, read_shares, 1, f"{top}/0")

    def test_fair_shares_are_read_back(self):
        many = 0
        for table, ring in skip_pairs(506, (1, 2, 3, 5, 7), 3):
            shares = fair_shares(table, ring, 0)
            if min(top for top, _ in shares) < 0:
                self.assertRaises(InvalidShares, show_shares, shares)
            else:
                many += 1
                self.assertEqual(exact(read_shares(len(ring), show_shares(shares))), exact(shares))
        self.assertGreater(many, 10)

    def test_one_place_and_thirty(self):
        self.assertEqual([show_shares([(0, 1)]), read_shares(1, "0"), show_shares([(0, 9)])], ["0", [(0, 1)], "0"])
        thirds = [(at, 3) for at in range(30)]
        self.assertEqual(read_shares(30, show_shares(thirds))[:5], [(0, 1), (1, 3), (2, 3), (1, 1), (4, 3)])
        self.assertEqual(show_shares(thirds)[:16], "0 1/3 2/3 1 4/3 ")

    def test_numbers_of_sixty_digits(self):
        nines, sevens = 10 ** 60 - 1, 10 ** 60 - 3
        self.assertEqual(show_shares([(nines, 1), (1, nines)]), f"{nines} 1/{nines}")
        self.assertEqual(read_shares(2, f"{nines} 1/{nines}"), [(nines, 1), (1, nines)])
        self.assertEqual(gcd(nines, sevens), 1)
        self.assertEqual(read_shares(1, f"{sevens}/{nines}"), [(sevens, nines)])
        for text in (f"{10 ** 60}", f"1/{10 ** 60}", f"{10 ** 60 + 1}/2", "1/" + "3" * 61):
            self.assertWrong(0, read_shares, 1, text)

    def test_other_strings(self):
        wrong = ["", " ", "0", "0 1 2", "0  1", " 0 1", "0 1 ", "0 1\n", "0\n1", "0 6/4", "0 3/1", "0 0/2", "0/1 1", "0/2 0",
                 "0 1/0", "0 0/0", "1/1 0", "0 2/2", "0 1/", "0 /2", "0 /", "0 1/2/3", "0 1//2", "0 1 /2", "0 1/ 2", "0 -1",
                 "0 -1/2", "0 1/-2", "0 +1", "0 01", "0 1/02", "0 01/2", "00 1", "0 1.5", "0,1", "0-1", "a b", "0 \u0661",
                 "0 1/\u0662", "0 (1, 2)"]
        for text in wrong:
            with self.subTest(text):
                self.assertWrong(0, read_shares, 2, text)
        for word in NO_NUMBERS:
            if word != "1/2":
                self.assertWrong(0, read_shares, 2, f"0 {word}")
            self.assertWrong(0, read_shares, 2, f"0 {word}/7")
            self.assertWrong(0, read_shares, 2, f"0 7/{word}")

    def test_no_shares(self):
        wrong = [None, True, 0, "", "0", (), ((0, 1),), {}, set(), object(), [], [(0, 1)] * 31, [(-1, 1)], [(0, 1), (-1, 2)],
                 [(0, 0)], [(1, 0)], [(1, -1)], [(-1, -1)], [(1,)], [(1, 1, 1)], [()], [[1, 1]], [1], [None], ["1"], [(True, 1)],
                 [(1, True)], [(1, None)], [("1", 1)], [(0, 1), None], [(0, False)], [((0,), 1)], [(0, 1), 0]]
        for shares in wrong:
            with self.subTest(shares=shares):
                self.assertRaises(InvalidShares, show_shares, shares)

    def test_nothing_is_changed(self):
        shares, table, ring = [(6, 4), (0, 5)], [row[:] for row in FIVE], RING[:]
        for _ in range(2):
            self.assertEqual(show_shares(shares), "3/2 0")
            show_table(table)
            show_ring(ring)
        self.assertEqual(exact([shares, table, ring]), exact([[(6, 4), (0, 5)], FIVE, RING]))


if __name__ == "__main__":
    unittest.main()
