import itertools
import re
import unittest

from helper import small_rings
from ringdeal import errors
from ringdeal.dealing import deal_of
from ringdeal.lines import read, shown

# Point 15 in one pattern, for texts of any length.
GOOD = re.compile("(0|[1-9][0-9]*) (at (0|[1-9][0-9]*)|nowhere)")
HUNDRED = "9" * 100

CASES = [
    ([], []),
    ([(12, 3)], ["12 at 3"]),
    ([(7, None)], ["7 nowhere"]),
    ([(0, 0)], ["0 at 0"]),
    ([(0, None)], ["0 nowhere"]),
    ([(0, 10), (10, 0), (100, None)], ["0 at 10", "10 at 0", "100 nowhere"]),
    ([(2, 5), (9, None), (10, 5), (11, 123456789)], ["2 at 5", "9 nowhere", "10 at 5", "11 at 123456789"]),
    ([(10**99, 10**100 - 1)], ["1" + "0" * 99 + " at " + HUNDRED]),
    ([(10**100 - 1, None)], [HUNDRED + " nowhere"]),
    ([(10**120, 10**120 + 1)], ["1" + "0" * 120 + " at 1" + "0" * 119 + "1"]),
]

BAD_LINES = [
    # A first figure nought.
    "07 nowhere", "007 at 3", "00 nowhere", "12 at 03", "12 at 00", "0" + HUNDRED + " nowhere",
    # A sign.
    "+7 nowhere", "-7 nowhere", "-0 nowhere", "12 at +3", "12 at -3", "12 at -0",
    # Blanks ahead, behind, two between.
    " 7 nowhere", "7 nowhere ", "7  nowhere", " 12 at 3", "12 at 3 ", "12  at 3", "12 at  3", "\t7 nowhere",
    "7\tnowhere", "12\tat 3", "12 at\t3", "7 nowhere\n", "12 at 3\n", "12 at 3\r", "\n12 at 3", "7\nnowhere",
    "7\u00a0nowhere",
    # Nothing, and blanks alone.
    "", " ", "  ", "\n",
    # Other words.
    "7 Nowhere", "7 NOWHERE", "7 nowher", "7 nowheres", "7 somewhere", "7 None", "12 At 3", "12 to 3", "12 a 3",
    "12 att 3", "12 3", "12 at 3 at 4", "12 at 3 nowhere", "7 nowhere 3", "7 nowhere at 3", "7 at nowhere",
    "nowhere 7", "at 12 3", "12at 3", "12 at3", "12at3", "7nowhere", "12 at 3.", "12 at 3,", "(12, 3)", "12",
    # A missing number.
    "nowhere", " nowhere", "at 3", " at 3", "12 at", "12 at ", "at", " at ",
    # Figures that aren't those from 0 to 9.
    "x nowhere", "12 at x", "1_2 at 3", "12 at 1_0", "0x7 nowhere", "7a nowhere", "1e3 nowhere", "7.0 nowhere",
    "1 2 at 3", "\u0667 nowhere", "12 at \u0663", "1\u0662 at 3", "\uff17 nowhere", "7\u00b2 nowhere",
    "12 at \u00b3", "12 at \u2460", "\u096d nowhere", "VII nowhere", "12 at \u2162", "1\x002 at 3",
]


class ShownTest(unittest.TestCase):
    def test_rows_as_their_lines(self):
        for rows, lines in CASES:
            with self.subTest(lines):
                self.assertEqual(shown(rows), lines)

    def test_nothing_handed_in_is_changed(self):
        rows = [(0, 3), (4, None), (12, 0)]
        shown(rows)
        self.assertEqual(rows, [(0, 3), (4, None), (12, 0)])


class ReadTest(unittest.TestCase):
    def refuse(self, lines):
        with self.subTest(lines):
            with self.assertRaises(errors.NoLine) as caught:
                read(lines)
            self.assertIsInstance(caught.exception, errors.RingError)
            self.assertIsInstance(caught.exception, ValueError)
            others = (errors.NoKeeper, errors.KeeperThere, errors.NoShare, errors.NoName, errors.NameThere)
            self.assertNotIsInstance(caught.exception, others)

    def test_lines_to_their_rows(self):
        for rows, lines in CASES:
            with self.subTest(lines):
                self.assertEqual(read(lines), rows)

    def test_kinds(self):
        rows = read(["0 at 0", "7 nowhere"])
        self.assertIs(type(rows), list)
        self.assertEqual([type(row) for row in rows], [tuple, tuple])
        self.assertEqual([type(part) for part in rows[0]], [int, int])
        self.assertIsNone(rows[1][1])

    def test_rows_that_follow_no_rule(self):
        # All at one keeper, far more than a bound, or at none beside it: read as they stand.
        lines = [f"{name} at 4" for name in range(150)]
        self.assertEqual(read(lines), [(name, 4) for name in range(150)])
        self.assertEqual(read(["1 at 1", "2 nowhere", "3 at 1"]), [(1, 1), (2, None), (3, 1)])

    def test_a_bad_line_by_itself(self):
        for line in BAD_LINES:
            self.refuse([line])

    def test_a_bad_line_among_good_ones(self):
        for line in BAD_LINES:
            self.refuse([line, "100 at 3"])
            self.refuse(["1 at 3", line])
            self.refuse(["1 at 3", "2 nowhere", line, "100 at 3"])

    def test_the_same_name_twice(self):
        self.refuse(["7 nowhere", "7 nowhere"])
        self.refuse(["0 at 3", "0 at 3"])
        self.refuse(["12 at 3", "12 at 4"])
        self.refuse(["12 at 3", "12 nowhere"])
        self.refuse(["1 at 3", "12 nowhere", "12 at 3", "13 at 3"])
        self.refuse(["12 at 3", "13 at 3", "12 at 3"])
        self.refuse([HUNDRED + " at 3", HUNDRED + " at 4"])

    def test_names_in_another_order(self):
        self.refuse(["2 at 3", "1 at 3"])
        self.refuse(["1 at 3", "0 nowhere"])
        # By the number, not by the text.
        self.refuse(["10 at 3", "9 at 3"])
        self.refuse(["100 nowhere", "11 nowhere"])
        self.assertEqual(read(["9 at 3", "10 at 3"]), [(9, 3), (10, 3)])
        self.refuse(["1 at 1", "2 at 1", "4 at 1", "3 at 1"])
        self.refuse(["2 at 1", "1 at 1", "3 at 1", "4 at 1"])
        self.refuse([HUNDRED + " at 3", "1" + "0" * 99 + " at 3"])
        for rows in itertools.permutations([(0, 1), (5, None), (12, 0), (100, 7)]):
            if list(rows) != sorted(rows, key=lambda row: row[0]):
                self.refuse(shown(list(rows)))

    def test_keepers_may_come_in_any_order(self):
        self.assertEqual(read(["1 at 9", "2 at 3", "3 at 10"]), [(1, 9), (2, 3), (3, 10)])

    def test_every_short_line(self):
        for length in range(7):
            for signs in itertools.product("01 at-", repeat=length):
                line = "".join(signs)
                self.one(line)

    def test_every_small_change_of_a_good_line(self):
        for good in ["12 at 3", "7 nowhere", "0 at 10", "0 nowhere"]:
            for place in range(len(good) + 1):
                self.one(good[:place] + good[place + 1:])
                for sign in "0195 atnowhe+-_.\t\n\r\u0663\uff17\u00b2":
                    self.one(good[:place] + sign + good[place:])
                    self.one(good[:place] + sign + good[place + 1:])

    def one(self, line):
        if GOOD.fullmatch(line):
            self.assertEqual(shown(read([line])), [line])
        else:
            with self.assertRaises(errors.NoLine, msg=repr(line)):
                read([line])

    def test_what_is_shown_is_read_back(self):
        for plan, keepers, names in small_rings():
            with self.subTest(plan=plan, keepers=keepers, names=names):
                rows = deal_of(plan, keepers, names)
                self.assertEqual(len(shown(rows)), len(names))
                self.assertEqual(read(shown(rows)), rows)

    def test_somewhat_beyond_the_bounds(self):
        rows = [(10**120 + 3 * name, 10**110 - name if name % 3 else None) for name in range(170)]
        self.assertEqual(read(shown(rows)), rows)

    def test_nothing_handed_in_is_changed(self):
        lines = ["0 at 3", "4 nowhere", "12 at 0"]
        read(lines)
        self.assertEqual(lines, ["0 at 3", "4 nowhere", "12 at 0"])
        for refused in [["4 nowhere", "0 at 3"], ["0 at 3", " x "]]:
            held = list(refused)
            self.refuse(refused)
            self.assertEqual(refused, held)


if __name__ == "__main__":
    unittest.main()
