"""[4]: names, lays and lines."""

import copy
import unittest

from termlays.sheets import is_lay, is_line, is_name
from tests.samples import ANY_VALUES, MIXED

NAMES = ["a", "z", "now", "behind", "abcdefgh", "zzzzzzzz", "aa"]
NEAR_NAMES = [
    "", "abcdefghi", "A", "aB", "a ", " a", "a b", "a1", "1", "a-b", "a_b", "a\n", "\n", "a\t", "`", "{", "a~", "\u00e9",
]
LAYS = [
    ("now",), ("behind", ("a",)), ("behind", ("b", "a")), ("behind", tuple("abcdefghijkl")), ("beside", "a"),
    ("beside", "now"), ("split", "a", 1), ("split", "a", 6), ("split", "abcdefgh", 11),
]
NEAR_LAYS = [
    (), "now", ["now"], ("Now",), ("now ",), ("",), (None,), (("now",),), ("now", "a"), ("now", ()), ("later",),
    ("behind",), ("behind", ()), ("behind", "a"), ("behind", ["a"]), ("behind", ("a", "a")), ("behind", ("a", "b", "a")),
    ("behind", ("a", "B")), ("behind", ("a", "")), ("behind", (["a"],)), ("behind", (("a",),)), ("behind", {"a": 1}),
    ("behind", ("a", None)), ("behind", ("a",), "b"), ("behind", "a", "b"), ["behind", ("a",)], ("behind", 1),
    ("beside",), ("beside", ("a",)), ("beside", ["a"]), ("beside", "A"), ("beside", ""), ("beside", "abcdefghi"),
    ("beside", "a", "b"), ("beside", "a", 6), ["beside", "a"], ("beside", None), ("a", "beside"),
    ("split",), ("split", "a"), ("split", "a", 0), ("split", "a", 12), ("split", "a", 13), ("split", "a", -1),
    ("split", "a", True), ("split", "a", False), ("split", "a", None), ("split", "a", "6"), ("split", "a", (6,)),
    ("split", "A", 6), ("split", ("a",), 6), ("split", 6, "a"), ("split", "a", 6, 6), ["split", "a", 6],
    ("split", "a", 10 ** 60), ("split", "a", [6]), ("behind", ("a",), 6), ("beside", "a", 12), ("now", "a", 6),
    ("a",), ("split", "", 6), (6, "a", "split"),
]
LINES = [("a", lay, least) for lay in LAYS for least in (0, 1, 7, 11, 12)] + [("abcdefgh", ("now",), 12)] + MIXED
NEAR_LINES = [
    (), ("a",), ("a", ("now",)), ("a", ("now",), 12, 12), ["a", ("now",), 12], "abc", ("a", ("now",), -1),
    ("a", ("now",), 13), ("a", ("now",), True), ("a", ("now",), False), ("a", ("now",), None), ("a", ("now",), "12"),
    ("a", ("now",), (12,)), ("a", ["now"], 12), ("a", "now", 12), ("A", ("now",), 12), ("", ("now",), 12),
    ("abcdefghi", ("now",), 12), (1, ("now",), 12), (None, ("now",), 12), (("a",), ("now",), 12), (["a"], ("now",), 12),
    ("a", 12, ("now",)), ("a", (), 12), ("a", None, 12), (("now",), "a", 12), ("a", ("now",), [12]), {"a": ("now",)},
] + [("a", lay, 12) for lay in NEAR_LAYS]


class Kinds(unittest.TestCase):

    def check(self, asked, right, near):
        """The right values alone are what is asked for, by position and by name, and asking changes none."""
        for value in right:
            with self.subTest(asked.__name__, value=value):
                self.assertIs(asked(value), True)
                self.assertIs(asked(value=value), True)
        for value in near:
            held = copy.deepcopy(value)
            with self.subTest(asked.__name__, value=value):
                self.assertIs(asked(value), False)
                self.assertIs(asked(value=value), False)
                self.assertEqual(value, held)

    def test_names(self):
        self.check(is_name, NAMES, NEAR_NAMES)
        self.check(is_name, [], [value for value in ANY_VALUES if value not in ("a", "now")])

    def test_names_of_each_letter_alone(self):
        right = [letter for letter in map(chr, range(256)) if is_name(letter)]
        self.assertEqual("".join(right), "abcdefghijklmnopqrstuvwxyz")

    def test_names_of_each_length(self):
        self.assertEqual([many for many in range(20) if is_name("q" * many)], [1, 2, 3, 4, 5, 6, 7, 8])

    def test_lays(self):
        self.check(is_lay, LAYS, NEAR_LAYS)
        self.check(is_lay, [], [value for value in ANY_VALUES if value != ("now",)])

    def test_splits_of_each_share(self):
        shares = [share for share in range(-20, 20) if is_lay(("split", "a", share))]
        self.assertEqual(shares, list(range(1, 12)))

    def test_lines(self):
        self.check(is_line, LINES, NEAR_LINES)
        self.check(is_line, [], [value for value in ANY_VALUES if value != ("a", ("now",), 12)])

    def test_lines_of_each_least(self):
        leasts = [least for least in range(-20, 20) if is_line(("a", ("now",), least))]
        self.assertEqual(leasts, list(range(13)))

    def test_a_line_alone_may_name_itself(self):
        # That each line is named once, and its anchors earlier, is asked of sheets, not of lines.
        self.assertIs(is_line(("a", ("beside", "a"), 12)), True)

    def test_deep_values(self):
        deep = ()
        for _ in range(10):
            deep = ([deep], {"a": 1})
        for asked in (is_name, is_lay, is_line):
            self.assertIs(asked(deep), False)
        self.assertIs(is_lay(("behind", deep)), False)
        self.assertIs(is_line(("a", deep, 12)), False)
