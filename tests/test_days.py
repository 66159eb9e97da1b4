"""[6]: lengths, and when terms begin and end at them."""

import copy
import unittest

from termlays.days import begins, end, ends, is_lengths, least_end
from termlays.errors import BadLengths
from termlays.sheets import Sheet
from tests.samples import ANY_VALUES, BIG, MIXED, raised, small_sheets

TIMED = (begins, ends, end, least_end)


def start_sums(sheet, lengths, full, name):
    """All sums of parts along which a term may begin: nothing is left out, so that the greatest one is told."""
    lay = sheet.line_named(name)[1]
    if lay[0] == "now":
        return [0]
    if lay[0] == "behind":
        return [parts for anchor in lay[1] for parts in stop_sums(sheet, lengths, full, anchor)]
    return start_sums(sheet, lengths, full, lay[1])


def stop_sums(sheet, lengths, full, name):
    """All sums of parts along which a term may end, with all of it served or with its least alone."""
    _, lay, least = sheet.line_named(name)
    days = 0 if name in sheet.quashed else lengths[name]
    twelfths = 12 if full else least
    sums = [parts + 12 * twelfths * days for parts in start_sums(sheet, lengths, full, name)]
    if lay[0] == "split":
        sums += [parts + lay[2] * twelfths * days for parts in stop_sums(sheet, lengths, full, lay[1])]
    return sums


class Lengths(unittest.TestCase):

    sheet = Sheet([("a", ("now",), 12), ("b", ("beside", "a"), 0)], quashed=["b"])

    def test_right_ones(self):
        right = [{"a": 0, "b": 0}, {"b": 1, "a": BIG}, {"a": 1, "b": 2, "c": 3, "abcdefgh": 0}]
        for value in right:
            with self.subTest(value=value):
                self.assertIs(is_lengths(self.sheet, value), True)
                self.assertIs(is_lengths(sheet=self.sheet, value=value), True)
                for call in TIMED:
                    call(self.sheet, value)

    def test_of_no_lines(self):
        self.assertIs(is_lengths(Sheet([]), {}), True)
        self.assertIs(is_lengths(Sheet([]), {"a": 4}), True)
        self.assertIs(is_lengths(Sheet([]), {"a": -4}), False)
        self.assertIs(is_lengths(Sheet([]), []), False)

    def test_wrong_ones(self):
        right = {"a": 1, "b": 2}
        wrong = [{}, {"a": 1}, {"b": 1}, {"a": 1, "c": 1}, {"a": -1, "b": 2}, {"a": 1, "b": -1}, {"a": True, "b": 2},
                 {"a": 1, "b": False}, {"a": None, "b": 2}, {"a": "1", "b": 2}, {"a": [1], "b": 2}, {"a": (1,), "b": 2},
                 {**right, "": 1}, {**right, "A": 1}, {**right, "abcdefghi": 1}, {**right, 1: 1}, {**right, None: 1},
                 {**right, ("a",): 1}, {**right, True: 1}, {**right, "c": -1}, {**right, "c": True}, {**right, "c": None},
                 {**right, "c d": 1}, {**right, "c": {}}, [("a", 1), ("b", 2)], (("a", 1), ("b", 2)), [right], "ab"]
        for value in wrong + ANY_VALUES:
            held = copy.deepcopy(value)
            with self.subTest(value=value):
                self.assertIs(is_lengths(self.sheet, value), False)
                self.assertIs(is_lengths(value=value, sheet=self.sheet), False)
                for call in TIMED:
                    self.assertIs(raised(BadLengths, call, self.sheet, value).value, value)
                    self.assertIs(raised(BadLengths, call, sheet=self.sheet, lengths=value).value, value)
                self.assertEqual(value, held)

    def test_a_quashed_term_has_its_days_too(self):
        self.assertEqual(raised(BadLengths, end, self.sheet, {"a": 1}).value, {"a": 1})


class Told(unittest.TestCase):

    def test_mixed(self):
        # By hand: c ends 12 * 6 * 8 parts behind the end of a; e is behind d and c; f and g end by themselves.
        lengths = {"a": 10, "b": 6, "c": 8, "d": 4, "e": 2, "f": 3, "g": 12}
        sheet = Sheet(MIXED)
        self.assertEqual(begins(sheet, lengths), {"a": 0, "b": 1440, "c": 0, "d": 1440, "e": 2016, "f": 2016, "g": 0})
        self.assertEqual(
            ends(sheet, lengths),
            {"a": 1440, "b": 2304, "c": 2016, "d": 2016, "e": 2304, "f": 2304 + 396, "g": 1728},
        )
        self.assertEqual(end(sheet, lengths), 2700)
        # With the least: d takes none, so e begins with c's end 2016 and takes 12 * 1 * 2; f: 2040 + 11 * 7 * 3.
        self.assertEqual(least_end(sheet, lengths), 2040 + 231)

    def test_arguments_by_name(self):
        sheet, lengths = Sheet([("a", ("now",), 6), ("b", ("behind", ("a",)), 12)]), {"a": 2, "b": 1}
        self.assertEqual(begins(sheet=sheet, lengths=lengths), {"a": 0, "b": 288})
        self.assertEqual(ends(lengths=lengths, sheet=sheet), {"a": 288, "b": 432})
        self.assertEqual(end(lengths=lengths, sheet=sheet), 432)
        self.assertEqual(least_end(sheet=sheet, lengths=lengths), 288)

    def test_no_lines(self):
        for lengths in ({}, {"a": 5}):
            self.assertEqual([call(Sheet([]), lengths) for call in TIMED], [{}, {}, 0, 0])

    def test_behind_the_greatest_of_the_ends(self):
        lines = [("a", ("now",), 12), ("b", ("now",), 1), ("c", ("behind", ("a", "b")), 12)]
        self.assertEqual(begins(Sheet(lines), {"a": 1, "b": 3, "c": 1})["c"], 432)
        self.assertEqual(begins(Sheet(lines), {"a": 4, "b": 3, "c": 1})["c"], 576)
        self.assertEqual(end(Sheet(lines), {"a": 1, "b": 3, "c": 1}), 576)
        self.assertEqual(least_end(Sheet(lines), {"a": 1, "b": 3, "c": 1}), 288)

    def test_the_end_may_be_that_of_any_term(self):
        lines = [("a", ("now",), 12), ("b", ("beside", "a"), 12), ("c", ("beside", "b"), 12)]
        for name in "abc":
            self.assertEqual(end(Sheet(lines), {"a": 1, "b": 1, "c": 1, name: 5}), 720)
            self.assertEqual(least_end(Sheet(lines), {"a": 1, "b": 1, "c": 1, name: 5}), 720)

    def test_beside_what_is_behind(self):
        lines = [("a", ("now",), 12), ("b", ("behind", ("a",)), 12), ("c", ("beside", "b"), 12), ("d", ("split", "c", 3), 12)]
        lengths = {"a": 2, "b": 1, "c": 3, "d": 1}
        self.assertEqual(begins(Sheet(lines), lengths), {"a": 0, "b": 288, "c": 288, "d": 288})
        self.assertEqual(ends(Sheet(lines), lengths), {"a": 288, "b": 432, "c": 720, "d": 756})

    def test_split_ends_by_the_later_of_both(self):
        lines = [("a", ("now",), 12), ("b", ("split", "a", 4), 6)]
        told = [ends(Sheet(lines), {"a": 4, "b": days})["b"] for days in (0, 1, 5, 6, 7, 8)]
        self.assertEqual(told, [576, 624, 816, 864, 1008, 1152])
        # With the least 6, b takes 72 parts for each day, and ends 24 for each behind the end of a.
        self.assertEqual([least_end(Sheet(lines), {"a": 4, "b": days}) for days in (0, 11, 12, 13)], [576, 840, 864, 936])

    def test_split_of_each_share(self):
        for share in range(1, 12):
            sheet = Sheet([("a", ("now",), 12), ("b", ("split", "a", share), 5)])
            self.assertEqual(end(sheet, {"a": 50, "b": 1}), 7200 + 12 * share)
            self.assertEqual(least_end(sheet, {"a": 50, "b": 1}), 7200 + 5 * share)

    def test_quashed_terms_take_no_time(self):
        lines = [("a", ("now",), 12), ("b", ("behind", ("a",)), 12), ("c", ("split", "b", 6), 12)]
        lengths = {"a": 1, "b": 2, "c": 4}
        told = {"": 720, "a": 576, "b": 720, "c": 432, "ab": 576, "bc": 144, "abc": 0}
        for quashed, parts in told.items():
            sheet = Sheet(lines, quashed=list(quashed))
            self.assertEqual([end(sheet, lengths), least_end(sheet, lengths)], [parts, parts])

    def test_a_quashed_split_term_ends_with_its_anchor(self):
        sheet = Sheet([("a", ("now",), 12), ("b", ("split", "a", 6), 12)], quashed=["b"])
        self.assertEqual(begins(sheet, {"a": 3, "b": 100}), {"a": 0, "b": 0})
        self.assertEqual(ends(sheet, {"a": 3, "b": 100}), {"a": 432, "b": 432})

    def test_least_of_each_share(self):
        for least in range(13):
            sheet = Sheet([("a", ("now",), least)])
            self.assertEqual([end(sheet, {"a": 7}), least_end(sheet, {"a": 7})], [1008, 84 * least])

    def test_least_changes_neither_begins_nor_ends(self):
        lengths = {"a": 10, "b": 6, "c": 8, "d": 4, "e": 2, "f": 3, "g": 12}
        full = Sheet([(name, lay, 12) for name, lay, _ in MIXED])
        for call in (begins, ends, end):
            self.assertEqual(call(Sheet(MIXED), lengths), call(full, lengths))

    def test_names_of_eight_letters(self):
        lines = [("abcdefgh", ("now",), 12), ("now", ("beside", "abcdefgh"), 12), ("zy", ("split", "now", 6), 12),
                 ("behind", ("behind", ("zy", "now")), 12)]
        lengths = {"abcdefgh": 1, "now": 3, "zy": 4, "behind": 2}
        self.assertEqual(begins(Sheet(lines), lengths), {"abcdefgh": 0, "now": 0, "zy": 0, "behind": 720})
        self.assertEqual(ends(Sheet(lines), lengths), {"abcdefgh": 144, "now": 432, "zy": 720, "behind": 1008})

    def test_terms_that_have_the_names_of_lays(self):
        lines = [("split", ("now",), 12), ("now", ("behind", ("split",)), 12), ("behind", ("beside", "now"), 12),
                 ("beside", ("behind", ("now",)), 12), ("zy", ("beside", "beside"), 12), ("z", ("split", "behind", 6), 12)]
        lengths = {"split": 1, "now": 2, "behind": 3, "beside": 4, "zy": 5, "z": 6}
        self.assertEqual(
            begins(Sheet(lines), lengths), {"split": 0, "now": 144, "behind": 144, "beside": 432, "zy": 432, "z": 144},
        )
        self.assertEqual([end(Sheet(lines), lengths), least_end(Sheet(lines), lengths)], [1152, 1152])

    def test_days_of_thirty_digits(self):
        lines = [("a", ("now",), 7), ("b", ("behind", ("a",)), 12), ("c", ("split", "b", 11), 1)]
        lengths = {"a": BIG, "b": BIG, "c": BIG}
        self.assertEqual(begins(Sheet(lines), lengths), {"a": 0, "b": 144 * BIG, "c": 144 * BIG})
        self.assertEqual(ends(Sheet(lines), lengths), {"a": 144 * BIG, "b": 288 * BIG, "c": 420 * BIG})
        self.assertEqual(least_end(Sheet(lines), lengths), (84 + 144 + 11) * BIG)

    def test_days_of_none(self):
        lengths = {name: 0 for name in "abcdefg"}
        self.assertEqual([begins(Sheet(MIXED), lengths), ends(Sheet(MIXED), lengths)], [lengths, lengths])
        self.assertEqual([end(Sheet(MIXED), lengths), least_end(Sheet(MIXED), lengths)], [0, 0])

    def test_more_names_in_the_lengths(self):
        sheet = Sheet([("a", ("now",), 12)])
        self.assertEqual([call(sheet, {"z": 50, "a": 1, "b": 2}) for call in TIMED], [{"a": 0}, {"a": 144}, 144, 144])

    def test_ten_lines_one_behind_another(self):
        names = "abcdefghij"
        lines = [("a", ("now",), 12)] + [(name, ("behind", (names[at],)), 12) for at, name in enumerate(names[1:])]
        self.assertEqual(end(Sheet(lines), {name: 3 for name in names}), 4320)

    def test_against_all_sums(self):
        for sheet in small_sheets():
            for lengths in ({"a": 1, "b": 2, "c": 5}, {"a": 7, "b": 3, "c": 1}, {"a": 0, "b": 4, "c": 3}):
                starts = {name: max(start_sums(sheet, lengths, True, name)) for name in sheet.names}
                stops = {name: max(stop_sums(sheet, lengths, True, name)) for name in sheet.names}
                least = [max(stop_sums(sheet, lengths, False, name)) for name in sheet.names]
                self.assertEqual(
                    [call(sheet, lengths) for call in TIMED],
                    [starts, stops, max([0, *stops.values()]), max([0, *least])],
                    (sheet.lines, sheet.quashed, lengths),
                )


class Copied(unittest.TestCase):

    def test_nothing_is_changed_and_each_dict_is_new(self):
        sheet, lengths = Sheet(MIXED, quashed=["b"]), {name: 3 for name in "gfedcbaz"}
        held = dict(lengths)
        for call in TIMED:
            one, other = call(sheet, lengths), call(sheet, lengths)
            self.assertEqual(one, other)
            if isinstance(one, dict):
                one.clear()
                self.assertIsNot(one, other)
                self.assertEqual(call(sheet, lengths), other)
        self.assertEqual([sheet, lengths], [Sheet(MIXED, quashed=["b"]), held])

    def test_the_order_of_the_keys_has_no_meaning(self):
        lengths = {name: at for at, name in enumerate("abcdefg")}
        turned = {name: lengths[name] for name in reversed(lengths)}
        for call in TIMED:
            self.assertEqual(call(Sheet(MIXED), lengths), call(Sheet(MIXED), turned))
