"""[5]: sheets, made and asked."""

import copy
import unittest

from termlays import errors
from termlays.sheets import Sheet
from tests.samples import ANY_VALUES, MIXED, any_values_but, raised

A, B, C = ("a", ("now",), 12), ("b", ("behind", ("a",)), 8), ("c", ("split", "a", 6), 12)


class Made(unittest.TestCase):

    def test_properties(self):
        sheet = Sheet(MIXED, quashed=["g", "b"])
        self.assertEqual(sheet.lines, MIXED)
        self.assertEqual(sheet.names, ["a", "b", "c", "d", "e", "f", "g"])
        self.assertEqual(sheet.quashed, ("b", "g"))
        self.assertEqual(len(sheet), 7)

    def test_names_keep_the_order_of_the_lines(self):
        sheet = Sheet([("z", ("now",), 0), ("b", ("now",), 0), ("y", ("beside", "b"), 0)], quashed=("z", "y", "b"))
        self.assertEqual(sheet.names, ["z", "b", "y"])
        self.assertEqual(sheet.quashed, ("b", "y", "z"))

    def test_no_lines(self):
        for sheet in (Sheet([]), Sheet(()), Sheet(lines=[]), Sheet([], quashed=[]), Sheet([], quashed=())):
            self.assertEqual([sheet.lines, sheet.names, sheet.quashed, len(sheet)], [[], [], (), 0])

    def test_lists_and_tuples_by_position_and_by_name(self):
        sheets = [Sheet(kind([A, B]), quashed=other("b")) for kind in (list, tuple) for other in (list, tuple)]
        sheets.append(Sheet(quashed=["b"], lines=[A, B]))
        for sheet in sheets:
            self.assertEqual(sheet, sheets[0])
            self.assertIs(type(sheet.lines), list)
            self.assertIs(type(sheet.names), list)
            self.assertIs(type(sheet.quashed), tuple)
            self.assertEqual([sheet.lines, sheet.names, sheet.quashed], [[A, B], ["a", "b"], ("b",)])

    def test_quashed_is_passed_by_name_alone(self):
        self.assertRaises(TypeError, Sheet, [A], ["a"])

    def test_a_term_may_be_laid_to_a_quashed_one(self):
        self.assertEqual(Sheet([A, B], quashed=["a"]).lines, [A, B])

    def test_names_of_eight_letters(self):
        lines = [("abcdefgh", ("now",), 12), ("now", ("beside", "abcdefgh"), 12), ("zy", ("split", "now", 6), 12),
                 ("behind", ("behind", ("zy", "now")), 12)]
        self.assertEqual(Sheet(lines, quashed=["zy", "now"]).quashed, ("now", "zy"))
        for lay in (("beside", "zz"), ("split", "zz", 6), ("behind", ("zy", "zz"))):
            self.assertEqual(raised(errors.NotNamed, Sheet, lines + [("a", lay, 12)]).name, "zz")

    def test_ten_lines(self):
        lines = [("a", ("now",), 12)] + [(name, ("behind", ("a",)), 12) for name in "bcdefghij"]
        self.assertEqual(Sheet(lines, quashed=list("jihgfedcba")).quashed, tuple("abcdefghij"))


class Copied(unittest.TestCase):

    def test_what_is_handed_in_is_not_changed(self):
        lines, quashed = list(MIXED), ["g", "a", "c"]
        Sheet(lines, quashed=quashed).quash("b").restore("a").with_line("h", ("now",))
        self.assertEqual([lines, quashed], [MIXED, ["g", "a", "c"]])

    def test_what_is_changed_later_does_not_change_the_sheet(self):
        lines, quashed = [A, B], ["b"]
        sheet = Sheet(lines, quashed=quashed)
        lines.append(C)
        lines[0] = C
        quashed[0] = "a"
        quashed.append("b")
        self.assertEqual([sheet.lines, sheet.names, sheet.quashed, len(sheet)], [[A, B], ["a", "b"], ("b",), 2])

    def test_told_lists_are_new_each_time(self):
        sheet = Sheet([A, B], quashed=["b"])
        sheet.lines.clear()
        sheet.names.append("c")
        self.assertIsNot(sheet.lines, sheet.lines)
        self.assertIsNot(sheet.names, sheet.names)
        self.assertEqual([sheet.lines, sheet.names, len(sheet)], [[A, B], ["a", "b"], 2])

    def test_a_new_sheet_shares_no_list_with_the_old_one(self):
        old = Sheet([A, B])
        for new in (old.quash("a"), old.with_line("c", ("now",)), old.quash("b").restore("b")):
            new.lines.clear()
            self.assertEqual(old, Sheet([A, B]))


class Refused(unittest.TestCase):

    def test_bad_lines(self):
        for value in any_values_but(list, tuple) + [{"a": A}, "abc", iter([A]), range(0)]:
            with self.subTest(value=value):
                self.assertIs(raised(errors.BadLines, Sheet, value).value, value)
                self.assertIs(raised(errors.BadLines, Sheet, lines=value, quashed=["a"]).value, value)
                self.assertIs(raised(errors.BadLines, Sheet, value, quashed=None).value, value)

    def test_bad_row(self):
        for value in ANY_VALUES:
            if value == A:
                continue
            with self.subTest(value=value):
                self.assertEqual(raised(errors.BadRow, Sheet, [value]).number, 0)
                self.assertEqual(raised(errors.BadRow, Sheet, (A, B, value)).number, 2)
                self.assertEqual(raised(errors.BadRow, Sheet, [A, value, B, value]).number, 1)

    def test_bad_row_comes_ahead_of_wrong_lines_and_of_quashed(self):
        self.assertEqual(raised(errors.BadRow, Sheet, [A, A, ("b", ("now",), 13)]).number, 2)
        self.assertEqual(raised(errors.BadRow, Sheet, [B, C, None], quashed="a").number, 2)

    def test_bad_row_of_a_line_as_a_list(self):
        self.assertEqual(raised(errors.BadRow, Sheet, [A, list(B)]).number, 1)

    def test_named_twice(self):
        self.assertEqual(raised(errors.NamedTwice, Sheet, [A, B, C, ("b", ("now",), 0)]).name, "b")
        self.assertEqual(raised(errors.NamedTwice, Sheet, (A, A)).name, "a")
        self.assertEqual(raised(errors.NamedTwice, Sheet, [A, B, B, A]).name, "b")

    def test_not_named(self):
        lays = [("beside", "b"), ("split", "b", 6), ("behind", ("b",)), ("behind", ("a", "b")), ("behind", ("b", "a"))]
        for lay in lays + [("behind", ("a", "b", "c", "d"))]:
            with self.subTest(lay=lay):
                self.assertEqual(raised(errors.NotNamed, Sheet, [A, ("c", lay, 12)]).name, "b")
                self.assertEqual(raised(errors.NotNamed, Sheet, [A, ("c", lay, 12), ("b", ("now",), 1)]).name, "b")

    def test_a_line_is_no_anchor_of_itself(self):
        for lay in [("beside", "b"), ("split", "b", 1), ("behind", ("a", "b"))]:
            self.assertEqual(raised(errors.NotNamed, Sheet, [A, ("b", lay, 12)]).name, "b")

    def test_the_first_wrong_line_is_told(self):
        twice, lost = ("a", ("now",), 12), ("d", ("beside", "e"), 12)
        self.assertEqual(raised(errors.NamedTwice, Sheet, [A, twice, lost]).name, "a")
        self.assertEqual(raised(errors.NotNamed, Sheet, [A, lost, twice]).name, "e")

    def test_of_one_line_named_twice_comes_first(self):
        self.assertEqual(raised(errors.NamedTwice, Sheet, [A, ("a", ("beside", "e"), 12)]).name, "a")

    def test_wrong_lines_come_ahead_of_quashed(self):
        self.assertEqual(raised(errors.NamedTwice, Sheet, [A, A], quashed=["q"]).name, "a")
        self.assertEqual(raised(errors.NotNamed, Sheet, [B], quashed=None).name, "a")

    def test_no_term(self):
        lists = [["d"], ("d",), ["a", "a"], ("a", "b", "a"), ["a", "d"], ["a", None], [["a"]], [("a",)], [{}], [1], [True],
                 [""], ["A"], ["a", []], [A], [B, C]]
        for quashed in lists + any_values_but(list, tuple) + ["a", "ab", {"a": True}, {"a"}]:
            with self.subTest(quashed=quashed):
                held = copy.deepcopy(quashed)
                self.assertIs(raised(errors.NoTerm, Sheet, [A, B, C], quashed=quashed).value, quashed)
                self.assertEqual(quashed, held)

    def test_no_term_of_no_lines(self):
        self.assertEqual(raised(errors.NoTerm, Sheet, [], quashed=["a"]).value, ["a"])
        self.assertEqual(raised(errors.NoTerm, Sheet, (), quashed="").value, "")


class Equal(unittest.TestCase):

    def test_equal(self):
        self.assertTrue(Sheet([A, B, C], quashed=["a", "b"]) == Sheet((A, B, C), quashed=("b", "a")))
        self.assertFalse(Sheet([A, B, C], quashed=["a", "b"]) != Sheet((A, B, C), quashed=("b", "a")))
        self.assertIs(Sheet([]) == Sheet(()), True)

    def test_unlike_sheets(self):
        sheet = Sheet([A, B], quashed=["b"])
        others = [Sheet([]), Sheet([A]), Sheet([A, B]), Sheet([A, B], quashed=["a"]), Sheet([A, B], quashed=["a", "b"]),
                  Sheet([A, C, B], quashed=["b"]), Sheet([A, ("b", ("behind", ("a",)), 9)], quashed=["b"]),
                  Sheet([A, ("b", ("beside", "a"), 8)], quashed=["b"]), Sheet([A, ("c", ("behind", ("a",)), 8)])]
        for other in others:
            with self.subTest(lines=other.lines, quashed=other.quashed):
                self.assertIs(sheet == other, False)
                self.assertIs(sheet != other, True)
                self.assertIs(other == sheet, False)

    def test_the_order_of_the_lines_is_part_of_the_lines(self):
        one, other = ("a", ("now",), 12), ("b", ("now",), 12)
        self.assertFalse(Sheet([one, other]) == Sheet([other, one]))

    def test_other_values(self):
        for sheet in (Sheet([]), Sheet([A, B], quashed=["a"])):
            for value in [value for value in ANY_VALUES if not isinstance(value, Sheet)] + [sheet.lines, (sheet,)]:
                with self.subTest(value=value):
                    self.assertIs(sheet == value, False)
                    self.assertIs(value == sheet, False)
                    self.assertIs(sheet != value, True)


class Asked(unittest.TestCase):

    def test_line_named(self):
        sheet = Sheet(MIXED, quashed=["c"])
        for line in MIXED:
            self.assertEqual(sheet.line_named(line[0]), line)
            self.assertEqual(sheet.line_named(name=line[0]), line)

    def test_no_term(self):
        sheet = Sheet([A, B], quashed=["b"])
        for value in ANY_VALUES + ["c", "ab", "aa"]:
            if value == "a":
                continue
            for call in (sheet.line_named, sheet.quash, sheet.restore):
                with self.subTest(call.__name__, value=value):
                    self.assertIs(raised(errors.NoTerm, call, value).value, value)
                    self.assertIs(raised(errors.NoTerm, call, name=value).value, value)
        self.assertEqual(sheet, Sheet([A, B], quashed=["b"]))

    def test_no_term_of_no_lines(self):
        for call in (Sheet([]).line_named, Sheet([]).quash, Sheet([]).restore):
            self.assertEqual(raised(errors.NoTerm, call, "a").value, "a")


class WithLine(unittest.TestCase):

    def test_one_line_more(self):
        old = Sheet([A, B], quashed=["b"])
        self.assertEqual(old.with_line("c", ("split", "a", 6)), Sheet([A, B, C], quashed=["b"]))
        self.assertEqual(old.with_line(lay=("now",), name="c", least=0), Sheet([A, B, ("c", ("now",), 0)], quashed=["b"]))
        self.assertEqual(old, Sheet([A, B], quashed=["b"]))

    def test_least_is_twelve_if_not_told(self):
        self.assertEqual(Sheet([]).with_line("a", ("now",)).lines, [A])

    def test_least_is_passed_by_name_alone(self):
        self.assertRaises(TypeError, Sheet([]).with_line, "a", ("now",), 12)

    def test_line_by_line(self):
        sheet = Sheet([])
        for name, lay, least in MIXED:
            sheet = sheet.with_line(name, lay, least=least)
        self.assertEqual(sheet, Sheet(MIXED))

    def test_bad_name(self):
        for value in ANY_VALUES + ["abcdefghi", "B"]:
            if value in ("a", "now"):
                continue
            with self.subTest(value=value):
                self.assertIs(raised(errors.BadName, Sheet([A]).with_line, value, None, least=None).value, value)
                self.assertIs(raised(errors.BadName, Sheet([A]).with_line, name=value, lay=("now",)).value, value)

    def test_bad_lay(self):
        for value in ANY_VALUES + [("behind", ["a"]), ("split", "a", 12), ("split", "a", True), ("behind", ("a", "a"))]:
            if value == ("now",):
                continue
            with self.subTest(value=value):
                self.assertIs(raised(errors.BadLay, Sheet([A]).with_line, "a", value, least=13).value, value)
                self.assertIs(raised(errors.BadLay, Sheet([A]).with_line, name="b", lay=value).value, value)

    def test_bad_share(self):
        for value in ANY_VALUES + [-1, 13, "12", (12,)]:
            if value in (0, 1, 12) and not isinstance(value, bool):
                continue
            with self.subTest(value=value):
                self.assertIs(raised(errors.BadShare, Sheet([A]).with_line, "a", ("beside", "q"), least=value).value, value)
                self.assertIs(raised(errors.BadShare, Sheet([A]).with_line, "b", ("now",), least=value).value, value)

    def test_named_twice_then_not_named(self):
        old = Sheet([A, B])
        self.assertEqual(raised(errors.NamedTwice, old.with_line, "b", ("now",)).name, "b")
        self.assertEqual(raised(errors.NamedTwice, old.with_line, "a", ("beside", "q"), least=0).name, "a")
        self.assertEqual(raised(errors.NotNamed, old.with_line, "c", ("beside", "q")).name, "q")
        self.assertEqual(raised(errors.NotNamed, old.with_line, "c", ("split", "c", 6)).name, "c")
        self.assertEqual(raised(errors.NotNamed, old.with_line, "c", ("behind", ("b", "r", "q", "a"))).name, "r")
        self.assertEqual(old, Sheet([A, B]))


class Quashed(unittest.TestCase):

    def test_quash(self):
        old = Sheet([A, B, C], quashed=["b"])
        self.assertEqual(old.quash("c"), Sheet([A, B, C], quashed=["b", "c"]))
        self.assertEqual(old.quash(name="a").quashed, ("a", "b"))
        self.assertEqual(old, Sheet([A, B, C], quashed=["b"]))

    def test_restore(self):
        old = Sheet([A, B, C], quashed=["a", "b", "c"])
        self.assertEqual(old.restore("b"), Sheet([A, B, C], quashed=["a", "c"]))
        self.assertEqual(old.restore(name="a").quashed, ("b", "c"))
        self.assertEqual(old, Sheet([A, B, C], quashed=["a", "b", "c"]))

    def test_there_and_back(self):
        old = Sheet(MIXED, quashed=["c", "e"])
        for name in old.names:
            new = old.restore(name).quash(name) if name in old.quashed else old.quash(name).restore(name)
            self.assertEqual(new, old)

    def test_is_quashed(self):
        sheet = Sheet([A, B], quashed=["b"])
        self.assertEqual(raised(errors.IsQuashed, sheet.quash, "b").name, "b")
        self.assertEqual(raised(errors.IsQuashed, sheet.quash, name="b").name, "b")
        self.assertEqual(sheet, Sheet([A, B], quashed=["b"]))

    def test_not_quashed(self):
        sheet = Sheet([A, B], quashed=["b"])
        self.assertEqual(raised(errors.NotQuashed, sheet.restore, "a").name, "a")
        self.assertEqual(raised(errors.NotQuashed, sheet.restore, name="a").name, "a")
        self.assertEqual(sheet, Sheet([A, B], quashed=["b"]))
