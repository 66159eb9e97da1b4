"""[7], [8]: chains, and the chains of sheets."""

import copy
import random
import unittest

from termlays.chains import added, amount, chains_of, is_chain, least_chains_of, longest, within
from termlays.days import end, least_end
from termlays.errors import BadLengths
from termlays.sheets import Sheet
from tests.samples import (
    ANY_VALUES, BIG, MIXED, drawn_chains, drawn_lengths, drawn_sheets, raised, small_sheets, summed,
)

CHAINS = [
    (), (("a", 1),), (("", 1),), (("", 5), ("a", 1)), (("a", 1), ("b", 144)), (("aa", 2), ("ab", 1), ("b", 1)),
    (("a", 10 ** 60),), (("a", 10 ** 400), ("abcdefgh", 1), ("zzzzzzzz", 7)), (("", 1), ("now", 2)),
    tuple((name, 3) for name in "abcdefghij"),
]
NEAR_CHAINS = [
    # Pairs that are not ascending, and names that are there twice.
    (("b", 1), ("a", 1)), (("a", 1), ("", 1)), (("b", 1), ("ab", 1)), (("a", 1), ("c", 1), ("b", 1)),
    (("a", 1), ("a", 1)), (("a", 1), ("a", 2)), (("", 1), ("", 1)), (("a", 1), ("b", 1), ("a", 1)),
    # Parts that are none.
    (("a", 0),), (("a", -1),), (("a", True),), (("a", False),), (("a", None),), (("a", "1"),), (("a", (1,)),),
    (("a", [1]),), (("", 0),), (("a", 1), ("b", 0)), (("a", 1), ("b", True)), (("a", -(10 ** 60)),),
    # Lists, strings and dicts in the place of tuples.
    [], [("a", 1)], (["a", 1],), ("a1",), "a1", {"a": 1}, ({"a": 1},), (("a", 1), ["b", 1]), ([],), "",
    # Names that are none.
    (("A", 1),), (("abcdefghi", 1),), ((" ", 1),), (("a ", 1),), (("\n", 1),), ((None, 1),), ((1, 1),), ((True, 1),),
    ((("a",), 1),), ((["a"], 1),), ((("", 1), 1),), ((Sheet([]), 1),), (((), 1),),
    # Pairs that are none.
    (("a",),), (("a", 1, 1),), ("a", 1), ((),), (None,), (("a", 1), None), (("a", 1), ()), ((1, "a"),), (1, 2),
    ((("a", 1),),), ((("a", 1), ("b", 1)),),
]


def outermost(ways):
    """What the document leaves of ways, which are dicts from names to parts: ascending, and none within another one."""
    chains = []
    for way in ways:
        chain = tuple(sorted(way.items()))
        if chain not in chains:
            chains.append(chain)
    return sorted(
        one for one in chains
        if not any(one != other and all(dict(other).get(name, 0) >= parts for name, parts in one) for other in chains)
    )


def longer(way, name, parts):
    return {**way, name: parts} if parts else way


def begin_ways(sheet, full, name):
    lay = sheet.line_named(name)[1]
    if lay[0] == "now":
        return [{}]
    if lay[0] == "behind":
        return [way for anchor in lay[1] for way in end_ways(sheet, full, anchor)]
    return begin_ways(sheet, full, lay[1])


def end_ways(sheet, full, name):
    """All ways through the lines along which a term may end, with all of it served or with its least alone."""
    _, lay, least = sheet.line_named(name)
    twelfths = 0 if name in sheet.quashed else 12 if full else least
    ways = [longer(way, name, 12 * twelfths) for way in begin_ways(sheet, full, name)]
    if lay[0] == "split":
        ways += [longer(way, name, lay[2] * twelfths) for way in end_ways(sheet, full, lay[1])]
    return ways


def all_ways(sheet, full):
    return [{}] + [way for name in sheet.names for way in end_ways(sheet, full, name)]


class Kinds(unittest.TestCase):

    def test_right_ones(self):
        for value in CHAINS:
            with self.subTest(value=value):
                self.assertIs(is_chain(value), True)
                self.assertIs(is_chain(value=value), True)

    def test_near_ones(self):
        for value in NEAR_CHAINS + [list(chain) for chain in CHAINS]:
            held = copy.deepcopy(value)
            with self.subTest(value=value):
                self.assertIs(is_chain(value), False)
                self.assertIs(is_chain(value=value), False)
                self.assertEqual(value, held)

    def test_values_of_any_kind(self):
        for value in ANY_VALUES:
            with self.subTest(value=value):
                self.assertIs(is_chain(value), value == () or value == (("a", 1),))
                self.assertIs(is_chain((value,)), False)
                self.assertIs(is_chain(((value, 1),)), value in ("", "a", "now"))
                self.assertIs(is_chain((("a", value),)), type(value) is int and value > 0)

    def test_parts_from_one_on(self):
        self.assertEqual([parts for parts in range(-5, 5) if is_chain((("a", parts),))], [1, 2, 3, 4])

    def test_pairs_exchanged_turned_and_left_out(self):
        chain = (("", 2), ("a", 3), ("b", 1), ("c", 1))
        for at in range(4):
            self.assertIs(is_chain(chain[:at] + chain[at + 1:]), True)
            self.assertIs(is_chain(chain[:at + 1] + chain[at:]), False)
            self.assertIs(is_chain(chain[at:] + chain[:at]), at == 0)
        self.assertIs(is_chain(chain[::-1]), False)


class Two(unittest.TestCase):

    def test_within_by_hand(self):
        big = (("a", 2), ("b", 3))
        for one in [(), (("a", 1),), (("a", 2),), (("b", 3),), (("a", 1), ("b", 3)), big]:
            self.assertIs(within(one, big), True)
            self.assertIs(within(one=one, other=big), True)
            self.assertIs(within(other=one, one=big), one == big)
        for one in [(("a", 3),), (("c", 1),), (("", 1),), (("a", 2), ("b", 4)), (("a", 1), ("b", 1), ("c", 1))]:
            self.assertIs(within(one, big), False)
        self.assertIs(within((("", 1),), (("", 1), ("a", 1))), True)
        self.assertIs(within((), ()), True)
        self.assertIs(within((("a", 1),), ()), False)
        self.assertIs(within((("a", 10 ** 60),), (("a", 10 ** 60 - 1),)), False)

    def test_added_by_hand(self):
        told = [
            ((), (), ()),
            ((("a", 1),), (), (("a", 1),)),
            ((("a", 1),), (("a", 2),), (("a", 3),)),
            ((("b", 1),), (("a", 2),), (("a", 2), ("b", 1))),
            ((("a", 1), ("c", 5)), (("b", 2), ("c", 1)), (("a", 1), ("b", 2), ("c", 6))),
            ((("", 4), ("b", 1)), (("", 3), ("a", 1)), (("", 7), ("a", 1), ("b", 1))),
            ((("b", 10 ** 60),), (("ab", 1), ("b", 1)), (("ab", 1), ("b", 10 ** 60 + 1))),
        ]
        for one, other, both in told:
            with self.subTest(one=one, other=other):
                self.assertEqual(added(one, other), both)
                self.assertEqual(added(other, one), both)
                self.assertEqual(added(one=one, other=other), both)
                self.assertIs(is_chain(added(one, other)), True)

    def test_drawn_ones(self):
        draw = random.Random(7)
        names = ["", "a", "b", "c"]
        for _ in range(300):
            one, other = drawn_chains(draw, names, 3, 2)
            parts = [(dict(one).get(name, 0), dict(other).get(name, 0)) for name in names]
            self.assertIs(within(one, other), all(less <= more for less, more in parts))
            both = tuple((name, sum(pair)) for name, pair in zip(names, parts) if sum(pair))
            self.assertEqual(added(one, other), both)
            self.assertIs(within(one, both), True)


class Amounts(unittest.TestCase):

    chain = (("a", 144), ("b", 5))

    def test_by_hand(self):
        self.assertEqual(amount(self.chain, {"a": 2, "b": 3}), 303)
        self.assertEqual(amount(chain=self.chain, lengths={"b": 0, "a": 0}), 0)
        self.assertEqual(amount(self.chain, {"b": 1, "a": BIG}), 144 * BIG + 5)
        self.assertEqual(amount((("a", 10 ** 60),), {"a": BIG}), 10 ** 60 * BIG)
        self.assertEqual(amount((), {}), 0)

    def test_more_names_in_the_lengths(self):
        self.assertEqual(amount(self.chain, {"z": 50, "a": 2, "aa": 9, "b": 3}), 303)
        self.assertEqual(amount((), {"a": 7}), 0)

    def test_the_empty_string_has_one_day(self):
        for lengths in ({}, {"a": 0}, {"a": 5}, {"z": BIG}):
            self.assertEqual(amount((("", 288),), lengths), 288)
        self.assertEqual(amount((("", 288), ("a", 2)), {"a": 0}), 288)
        self.assertEqual(amount((("", 288), ("a", 2)), {"a": 10}), 308)

    def test_bad_lengths(self):
        right = {"a": 1, "b": 2}
        wrong = [{}, {"a": 1}, {"b": 1}, {"a": 1, "c": 1}, {"a": -1, "b": 2}, {"a": 1, "b": -1}, {"a": True, "b": 2},
                 {"a": 1, "b": False}, {"a": None, "b": 2}, {"a": "1", "b": 2}, {"a": (1,), "b": 2}, {**right, "": 1},
                 {**right, "A": 1}, {**right, "abcdefghi": 1}, {**right, 1: 1}, {**right, None: 1},
                 {**right, ("a",): 1}, {**right, True: 1}, {**right, "c": -1}, {**right, "c": True},
                 {**right, "c": None}, [("a", 1), ("b", 2)], (("a", 1), ("b", 2)), [right], "ab"]
        for value in wrong + ANY_VALUES:
            held = copy.deepcopy(value)
            with self.subTest(value=value):
                self.assertIs(raised(BadLengths, amount, self.chain, value).value, value)
                self.assertIs(raised(BadLengths, amount, lengths=value, chain=self.chain).value, value)
                self.assertEqual(value, held)

    def test_bad_lengths_of_chains_without_names(self):
        # All that is no dict of days is bad for these, too; but no name can be lacking.
        for chain in ((), (("", 3),)):
            for value in [None, [], (), "", 0, {"a": -1}, {"a": True}, {"": 1}, {"": 0}, {"A": 1}, {0: 1}]:
                self.assertIs(raised(BadLengths, amount, chain, value).value, value)

    def test_nothing_is_changed(self):
        lengths = {"b": 3, "a": 2, "z": 1}
        amount(self.chain, lengths)
        self.assertEqual([lengths, list(lengths)], [{"b": 3, "a": 2, "z": 1}, ["b", "a", "z"]])


class OfSheets(unittest.TestCase):

    def check(self, sheet):
        """The chains are those of all ways through the lines."""
        for told, full in ((chains_of(sheet), True), (least_chains_of(sheet), False)):
            self.assertIs(type(told), list)
            self.assertEqual(told, outermost(all_ways(sheet, full)), (sheet.lines, sheet.quashed, full))

    def test_mixed_by_hand(self):
        self.assertEqual(chains_of(Sheet(MIXED)), [
            (("a", 144), ("b", 144)),
            (("a", 144), ("c", 72), ("e", 144), ("f", 132)), (("a", 144), ("c", 72), ("f", 144)),
            (("a", 144), ("d", 144), ("e", 144), ("f", 132)), (("a", 144), ("d", 144), ("f", 144)),
            (("a", 144), ("g", 12)), (("c", 144), ("e", 144), ("f", 132)), (("c", 144), ("f", 144)), (("g", 144),),
        ])
        self.assertEqual(least_chains_of(Sheet(MIXED)), [
            (("a", 144), ("b", 96)), (("a", 144), ("c", 72), ("e", 12), ("f", 77)), (("a", 144), ("c", 72), ("f", 84)),
            (("a", 144), ("g", 11)), (("c", 144), ("e", 12), ("f", 77)), (("c", 144), ("f", 84)), (("g", 132),),
        ])

    def test_mixed_with_quashed_terms_by_hand(self):
        self.assertEqual(chains_of(Sheet(MIXED, quashed=["a", "f", "g"])), [
            (("b", 144),), (("c", 144), ("e", 144)), (("d", 144), ("e", 144)),
        ])
        self.assertEqual(least_chains_of(Sheet(MIXED, quashed=["c", "e"])), [
            (("a", 144), ("b", 96)), (("a", 144), ("f", 84)), (("a", 144), ("g", 11)), (("g", 132),),
        ])

    def test_each_lay_by_hand(self):
        lines = [("a", ("now",), 12), ("b", ("now",), 6)]
        told = {
            ("now",): [(("a", 144),), (("b", 144),), (("c", 144),)],
            ("behind", ("a",)): [(("a", 144), ("c", 144)), (("b", 144),)],
            ("behind", ("b", "a")): [(("a", 144), ("c", 144)), (("b", 144), ("c", 144))],
            ("beside", "a"): [(("a", 144),), (("b", 144),), (("c", 144),)],
            ("split", "b", 5): [(("a", 144),), (("b", 144), ("c", 60)), (("c", 144),)],
        }
        for lay, chains in told.items():
            self.assertEqual(chains_of(Sheet(lines + [("c", lay, 3)])), chains)

    def test_terms_that_have_the_names_of_lays_by_hand(self):
        lines = [("split", ("now",), 12), ("now", ("behind", ("split",)), 12), ("behind", ("beside", "now"), 12),
                 ("beside", ("split", "behind", 6), 12)]
        self.assertEqual(chains_of(Sheet(lines)), [
            (("behind", 144), ("beside", 72), ("split", 144)), (("beside", 144), ("split", 144)),
            (("now", 144), ("split", 144)),
        ])

    def test_split_of_each_share_and_least(self):
        for share in range(1, 12):
            for least in range(1, 13):
                sheet = Sheet([("a", ("now",), 12), ("b", ("split", "a", share), least)])
                self.assertEqual(chains_of(sheet), [(("a", 144), ("b", 12 * share)), (("b", 144),)])
                told = [(("a", 144), ("b", share * least)), (("b", 12 * least),)]
                self.assertEqual(least_chains_of(sheet), told)

    def test_least_of_none(self):
        sheet = Sheet([("a", ("now",), 0), ("b", ("behind", ("a",)), 0), ("c", ("split", "b", 5), 0)])
        self.assertEqual(least_chains_of(sheet), [()])
        self.assertEqual(chains_of(sheet), [
            (("a", 144), ("b", 144), ("c", 60)), (("a", 144), ("c", 144)),
        ])

    def test_no_lines_and_nothing_that_is_served(self):
        for sheet in (Sheet([]), Sheet([("a", ("now",), 12)], quashed=["a"])):
            self.assertEqual([chains_of(sheet), least_chains_of(sheet)], [[()], [()]])
            self.assertEqual([chains_of(sheet=sheet), least_chains_of(sheet=sheet)], [[()], [()]])

    def test_a_quashed_term_holds_up_what_is_behind_it(self):
        lines = [("a", ("now",), 12), ("b", ("split", "a", 6), 12), ("c", ("behind", ("b",)), 12)]
        self.assertEqual(chains_of(Sheet(lines, quashed=["b"])), [(("a", 144), ("c", 144))])
        self.assertEqual(chains_of(Sheet(lines, quashed=["a"])), [(("b", 144), ("c", 144))])

    def test_small_sheets_against_all_ways(self):
        for sheet in small_sheets():
            self.check(sheet)

    def test_drawn_sheets_against_all_ways(self):
        for sheet in drawn_sheets(8, 300, 6):
            self.check(sheet)

    def test_ten_lines_against_all_ways(self):
        threes = [("behind", ("a", "b", "c")), ("behind", ("d", "e", "f"))]
        lines = [(name, ("now",), 12) for name in "abc"] + [(name, threes[0], 7) for name in "def"]
        lines += [(name, threes[1], 1) for name in "ghij"]
        self.assertEqual(len(chains_of(Sheet(lines))), 36)
        self.check(Sheet(lines))
        splits = [("a", ("now",), 12)] + [(new, ("split", old, 7), 5) for old, new in zip("abcdefghi", "bcdefghij")]
        self.assertEqual(len(chains_of(Sheet(splits))), 10)
        self.check(Sheet(splits))
        names = "abcdefghij"
        behind = [("a", ("now",), 12)] + [(names[at], ("behind", tuple(names[:at])), 12) for at in range(1, 10)]
        self.assertEqual(chains_of(Sheet(behind)), [tuple((name, 144) for name in names)])

    def test_new_each_time_and_the_sheet_stays(self):
        sheet = Sheet(MIXED, quashed=["g"])
        for call in (chains_of, least_chains_of):
            one, other = call(sheet), call(sheet)
            self.assertEqual(one, other)
            one.clear()
            self.assertEqual(call(sheet), other)
        self.assertEqual(sheet, Sheet(MIXED, quashed=["g"]))


class AtLengths(unittest.TestCase):

    def check(self, sheet, lengths):
        """The greatest amounts are the ends, and the longest chain has that amount."""
        amounts = [summed(chain, lengths) for chain in chains_of(sheet)]
        self.assertEqual(max(amounts), end(sheet, lengths))
        self.assertEqual(max(summed(chain, lengths) for chain in least_chains_of(sheet)), least_end(sheet, lengths))
        self.assertEqual(amounts, [amount(chain, lengths) for chain in chains_of(sheet)])
        told = longest(sheet, lengths)
        self.assertIn(told, chains_of(sheet))
        self.assertEqual(summed(told, lengths), end(sheet, lengths))
        self.assertEqual(longest(lengths=lengths, sheet=sheet), told)

    def test_small_sheets(self):
        for sheet in small_sheets():
            for lengths in ({"a": 1, "b": 2, "c": 5}, {"a": 7, "b": 3, "c": 1}, {"a": 0, "b": BIG, "c": BIG // 3}):
                self.check(sheet, lengths)

    def test_drawn_sheets(self):
        draw = random.Random(9)
        for sheet in drawn_sheets(10, 150, 10):
            for _ in range(8):
                self.check(sheet, drawn_lengths(draw, sheet.names + ["z"]))

    def test_longest_of_no_lines(self):
        self.assertEqual([longest(Sheet([]), {}), longest(Sheet([]), {"a": 4})], [(), ()])

    def test_longest_by_hand(self):
        lines = [("a", ("now",), 1), ("b", ("behind", ("a",)), 1), ("c", ("split", "a", 6), 1)]
        self.assertEqual(longest(Sheet(lines), {"a": 10, "b": 3, "c": 8}), (("a", 144), ("c", 72)))
        self.assertEqual(longest(Sheet(lines), {"a": 10, "b": 3, "c": 30}), (("c", 144),))
        self.assertEqual(longest(Sheet(lines, quashed=["a", "c"]), {"a": 10, "b": 3, "c": 30}), (("b", 144),))

    def test_longest_raises_bad_lengths(self):
        sheet = Sheet([("a", ("now",), 12), ("b", ("beside", "a"), 0)], quashed=["b"])
        right = {"a": 1, "b": 2}
        wrong = [{}, {"a": 1}, {"b": 1}, {"a": -1, "b": 2}, {"a": 1, "b": True}, {"a": 1, "b": None}, {**right, "": 1},
                 {**right, "A": 1}, {**right, 1: 1}, {**right, "c": -1}, [("a", 1), ("b", 2)], [right]]
        for value in wrong + ANY_VALUES:
            with self.subTest(value=value):
                self.assertIs(raised(BadLengths, longest, sheet, value).value, value)
                self.assertIs(raised(BadLengths, longest, sheet=sheet, lengths=value).value, value)
        for value in ([], None, {"a": -4}, {"": 1}):
            self.assertIs(raised(BadLengths, longest, Sheet([]), value).value, value)

    def test_the_lengths_stay_and_their_order_has_no_meaning(self):
        lengths = {name: 3 + at for at, name in enumerate("gfedcbaz")}
        held = dict(lengths)
        told = longest(Sheet(MIXED), lengths)
        self.assertEqual(lengths, held)
        self.assertEqual(longest(Sheet(MIXED), {name: held[name] for name in reversed(held)}), told)
