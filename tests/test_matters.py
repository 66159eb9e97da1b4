"""[15], [16]: which terms matter, their gain and their room, and to which of them days go best."""

import copy
import itertools
import random
import unittest

from termlays.chains import chains_of
from termlays.days import end, least_end
from termlays.ends import Ends, ends_of, least_ends_of
from termlays.errors import BadLengths, NoTerm
from termlays.later import later_lengths, never_later
from termlays.matters import best_served, gain, marked, matters, never_worse, room
from termlays.sheets import Sheet
from tests.samples import (
    ANY_VALUES, BIG, MIXED, any_values_but, drawn_chains, drawn_lengths, drawn_pairs, drawn_sheets, greatest, raised,
    small_sheets, summed,
)

SHEET = Sheet([("a", ("now",), 12), ("b", ("behind", ("a",)), 8), ("c", ("split", "a", 6), 12)])
DAYS = {"a": 10, "b": 6, "c": 8}
WRONG_LENGTHS = [
    {}, {"a": 10, "b": 6}, {"a": 10, "b": 6, "c": -1}, {"a": 10, "b": 6, "c": True}, {"a": 10, "b": None, "c": 8},
    {"a": 10, "b": 6, "c": "8"}, {**DAYS, "": 1}, {**DAYS, "A": 1}, {**DAYS, 1: 1}, {**DAYS, "d": -1}, [DAYS],
    [("a", 10), ("b", 6), ("c", 8)], "abc", ["a", "b", "c"],
]


def parts_of(chain, name):
    return sum(parts for other, parts in chain if other == name)


class Matters(unittest.TestCase):

    def test_by_hand(self):
        late = Ends([(("a", 2), ("c", 7)), (("b", 5),), (("a", 1), ("b", 2)), (("d", 1),), (("d", 4), ("e", 1))])
        told = [("a", True, 2), ("b", True, 5), ("c", True, 7), ("d", True, 4), ("e", True, 1), ("f", False, 0),
                ("", False, 0), ("aa", False, 0)]
        for name, is_so, parts in told:
            self.assertIs(matters(late, name), is_so)
            self.assertIs(matters(name=name, ends=late), is_so)
            self.assertEqual([gain(late, name), gain(name=name, ends=late)], [parts, parts])

    def test_names_of_terms_that_are_quashed_or_served_not_at_all(self):
        sheet = Sheet([("a", ("now",), 12), ("b", ("split", "a", 6), 12), ("c", ("now",), 0)])
        self.assertEqual([matters(ends_of(sheet), name) for name in "abc"], [True, True, True])
        self.assertEqual([matters(least_ends_of(sheet), name) for name in "abc"], [True, True, False])
        self.assertEqual([matters(ends_of(sheet.quash("b")), name) for name in "abc"], [True, False, True])

    def test_names_of_beaten_chains_are_in_unbeaten_ones_too(self):
        draw = random.Random(116)
        for _ in range(100):
            chains = drawn_chains(draw, ["", "a", "b", "c"], 3, 6)
            for name in ["", "a", "b", "c", "d"]:
                self.assertIs(matters(Ends(chains), name), any(parts_of(chain, name) for chain in chains))
                self.assertEqual(gain(Ends(chains), name), max(parts_of(chain, name) for chain in chains))

    def test_beaten_chains_do_not_count(self):
        late = Ends([(("a", 3),), (("b", 3),), (("a", 1), ("b", 1)), (("a", 1),)])
        self.assertEqual([gain(late, "a"), gain(late, "b")], [3, 3])
        self.assertEqual([gain(Ends([()]), "a"), matters(Ends([()]), "a")], [0, False])

    def test_the_empty_string(self):
        for chains, parts in (([(("", 5), ("a", 1)), (("", 3), ("b", 1))], 5), ([(("a", 1),)], 0), ([(("", 9),)], 9)):
            self.assertEqual([gain(Ends(chains), ""), matters(Ends(chains), "")], [parts, parts > 0])

    def test_drawn_ones(self):
        for late, _ in drawn_pairs(100, 200):
            for name in ["", *"abcdef"]:
                parts = max(parts_of(chain, name) for chain in late.chains)
                self.assertEqual([gain(late, name), matters(late, name)], [parts, parts > 0])

    def test_what_a_quashed_term_takes_off(self):
        draw = random.Random(101)
        for sheet in drawn_sheets(102, 60, 6):
            for name in sheet.names:
                if name in sheet.quashed:
                    self.assertEqual([gain(ends_of(sheet), name), gain(least_ends_of(sheet), name)], [0, 0])
                else:
                    self.check_quashed(sheet, name, draw, end, ends_of)
                    self.check_quashed(sheet, name, draw, least_end, least_ends_of)

    def check_quashed(self, sheet, name, draw, told, late):
        most = gain(late(sheet), name)
        for _ in range(6):
            lengths = drawn_lengths(draw, sheet.names)
            less = told(sheet, lengths) - told(sheet.quash(name), lengths)
            self.assertTrue(0 <= less <= most * lengths[name])
        alone = {**{other: 0 for other in sheet.names}, name: 5}
        self.assertEqual(told(sheet, alone) - told(sheet.quash(name), alone), 5 * most)


class Room(unittest.TestCase):

    def check(self, sheet, lengths, name):
        """The end stays with so many days more, but not with one more than these; or it never changes."""
        told, last = room(sheet, lengths, name), end(sheet, lengths)
        self.assertEqual(room(name=name, lengths=lengths, sheet=sheet), told)
        if told is None:
            for more in (1, 2, 100, 10 ** 40):
                self.assertEqual(end(sheet, {**lengths, name: lengths[name] + more}), last)
        else:
            self.assertTrue(type(told) is int and told >= 0)
            self.assertEqual(end(sheet, {**lengths, name: lengths[name] + told}), last)
            self.assertGreater(end(sheet, {**lengths, name: lengths[name] + told + 1}), last)
        self.assertIs(told is None, name in sheet.quashed)

    def test_by_hand(self):
        self.assertEqual([room(SHEET, DAYS, name) for name in "abc"], [0, 0, 4])
        self.assertEqual([room(SHEET, {"a": 10, "b": 0, "c": 8}, name) for name in "abc"], [0, 4, 0])
        self.assertEqual([room(SHEET, {"a": 1, "b": 1, "c": 100}, name) for name in "abc"], [49, 98, 0])
        self.assertEqual([room(SHEET, {"a": 0, "b": 0, "c": 0}, name) for name in "abc"], [0, 0, 0])
        self.assertEqual([room(SHEET.quash("a"), DAYS, name) for name in "abc"], [None, 2, 0])
        self.assertEqual(room(SHEET, {"a": 10, "b": BIG, "c": 8}, "c"), min(BIG + 2, 2 * BIG - 8))
        self.assertEqual(room(SHEET, {**DAYS, "z": 10 ** 40}, "c"), 4)

    def test_parts_that_do_not_come_out_even(self):
        sheet = Sheet([("a", ("now",), 12), ("b", ("split", "a", 5), 12), ("c", ("split", "b", 11), 12)])
        for days in itertools.product(range(4), repeat=3):
            for name in "abc":
                self.check(sheet, dict(zip("abc", days)), name)

    def test_small_and_drawn_sheets(self):
        draw = random.Random(103)
        for sheet in itertools.chain(small_sheets(), drawn_sheets(104, 80, 8)):
            for name in sheet.names:
                self.check(sheet, drawn_lengths(draw, sheet.names + ["z"]), name)

    def test_bad_lengths_then_no_term(self):
        for value in WRONG_LENGTHS + ANY_VALUES:
            held = copy.deepcopy(value)
            for name in ("a", "z", None):
                with self.subTest(value=value, name=name):
                    self.assertIs(raised(BadLengths, room, SHEET, value, name).value, value)
                    self.assertIs(raised(BadLengths, room, name=name, lengths=value, sheet=SHEET).value, value)
            self.assertEqual(value, held)
        lengths = {**DAYS, "z": 1}
        for value in ["z", "", "A", "aa", ["a"], ("a",), {"a": 1}, *[value for value in ANY_VALUES if value != "a"]]:
            held = copy.deepcopy(value)
            self.assertIs(raised(NoTerm, room, SHEET, lengths, value).value, value)
            self.assertEqual(value, held)
        self.assertEqual(raised(NoTerm, room, Sheet([]), {"a": 1}, "a").value, "a")
        self.assertEqual([lengths, SHEET.names], [{"a": 10, "b": 6, "c": 8, "z": 1}, ["a", "b", "c"]])


def marked_chains(chains, name, mark=""):
    """The chains marked by a name, by the words of the document."""
    return [tuple(sorted([*chain, (mark, parts_of(chain, name))])) if parts_of(chain, name) else chain
            for chain in chains]


class Marked(unittest.TestCase):

    def test_by_hand(self):
        late = Ends([(("a", 2), ("b", 3)), (("b", 4),), (("c", 5),)])
        told = [
            ("a", [(("", 2), ("a", 2), ("b", 3)), (("b", 4),), (("c", 5),)]),
            ("b", [(("", 3), ("a", 2), ("b", 3)), (("", 4), ("b", 4)), (("c", 5),)]),
            ("c", [(("", 5), ("c", 5)), (("a", 2), ("b", 3)), (("b", 4),)]),
            ("d", [(("a", 2), ("b", 3)), (("b", 4),), (("c", 5),)]),
        ]
        for name, chains in told:
            self.assertIs(type(marked(late, name)), Ends)
            self.assertEqual(marked(late, name).chains, chains)
            self.assertEqual(marked(name=name, ends=late).chains, chains)
        self.assertEqual(late.chains, [(("a", 2), ("b", 3)), (("b", 4),), (("c", 5),)])
        self.assertEqual(marked(Ends([()]), "a"), Ends([()]))

    def test_ends_that_have_the_empty_string_are_not_marked(self):
        for chains in ([(("", 5), ("a", 2))], [(("", 1),), (("a", 2), ("b", 3))], [(("", 7),)]):
            for name in ("a", "b", "c"):
                self.assertEqual(marked(Ends(chains), name), Ends(chains))

    def test_the_empty_string_in_beaten_chains_alone(self):
        late = Ends([(("", 1),), (("", 1), ("a", 2))]).without("")
        self.assertEqual(marked(late, "a").chains, [(("", 2), ("a", 2))])
        late = Ends([(("a", 2),), (("b", 2),)])
        self.assertEqual(marked(late, "a").chains, [(("", 2), ("a", 2)), (("b", 2),)])

    def test_drawn_ones(self):
        for late, _ in drawn_pairs(105, 200):
            for name in "abcz":
                if "" in late.names:
                    self.assertEqual(marked(late, name), late)
                else:
                    self.assertEqual(marked(late, name), Ends(marked_chains(late.chains, name)))


def end_served(chains, lengths, name, days):
    """The greatest amount if so many days were put to the name; a name that the lengths lack stays away."""
    return greatest(chains, {**lengths, name: lengths[name] - days})


class NeverWorse(unittest.TestCase):

    def check(self, late, one, other, draw):
        """At no lengths the end is greater, or some are found at which it is."""
        never = never_worse(late, one, other)
        self.assertIs(never_worse(other=other, one=one, ends=late), never)
        names = sorted({"", one, other, *late.names})
        if never:
            for _ in range(12):
                days = draw.choice([0, 1, 2, 7, BIG])
                lengths = {name: draw.choice([0, 1, draw.randint(0, 9), 10 ** 20]) for name in names}
                lengths[one], lengths[other] = lengths[one] + days, lengths[other] + days
                self.assertLessEqual(
                    end_served(late.chains, lengths, one, days), end_served(late.chains, lengths, other, days))
        else:
            # The mark z stands for the days; both names have so many days more.
            marks = [Ends(marked_chains(late.chains, name, "z")) for name in (other, one)]
            told = {**{name: 0 for name in names}, **later_lengths(*marks)}
            days = told.pop("z")
            told[one], told[other] = told[one] + days, told[other] + days
            self.assertGreater(end_served(late.chains, told, one, days), end_served(late.chains, told, other, days))
        return never

    def test_by_hand(self):
        draw = random.Random(106)
        late = Ends([(("a", 144), ("b", 144)), (("a", 144), ("c", 72)), (("c", 144),)])
        told = {("a", "b"): True, ("b", "a"): False, ("a", "c"): False, ("c", "a"): False, ("b", "c"): False,
                ("c", "b"): False, ("a", "a"): True, ("a", "d"): True, ("d", "a"): False, ("d", "e"): True}
        for (one, other), never in told.items():
            self.assertIs(self.check(late, one, other, draw), never, (one, other))
        late = Ends([(("a", 2),), (("b", 2),), (("a", 1), ("b", 1), ("c", 1))])
        self.assertEqual([self.check(late, one, other, draw) for one, other in itertools.permutations("abc", 2)],
                         [False, True, False, True, False, False])
        self.assertIs(self.check(Ends([()]), "a", "b", draw), True)

    def test_a_mixture_is_needed(self):
        draw = random.Random(107)
        late = Ends([(("a", 2), ("b", 4)), (("a", 6), ("b", 4)), (("a", 4), ("b", 4))])
        self.assertEqual([self.check(late, "a", "b", draw), self.check(late, "b", "a", draw)], [True, False])
        late = Ends([(("a", 4), ("c", 4)), (("a", 4), ("d", 4)), (("b", 4), ("c", 2), ("d", 2))])
        self.assertEqual([self.check(late, "a", "b", draw), self.check(late, "b", "a", draw)], [False, False])
        late = late | Ends([(("a", 4), ("b", 4), ("c", 2), ("d", 2))])
        self.assertEqual([self.check(late, "a", "b", draw), self.check(late, "b", "a", draw)], [True, False])

    def test_drawn_ones(self):
        draw = random.Random(108)
        counts = [0, 0]
        for late, _ in drawn_pairs(109, 300):
            one, other = draw.sample("abcd", 2)
            counts[self.check(late, one, other, draw)] += 1
            self.check(late, other, one, draw)
            if "" not in late.names:
                self.assertIs(never_worse(late, one, other), never_later(marked(late, other), marked(late, one)))
        self.assertGreater(min(counts), 60)

    def test_few_chains_against_all_small_lengths(self):
        draw = random.Random(110)
        counts = [0, 0]
        few = [dict(zip("abc", days)) for days in itertools.product(range(7), range(7), (0, 1, 3))]
        for _ in range(150):
            chains = drawn_chains(draw, "abc", 2, draw.randint(1, 4))
            worse = any(
                end_served(chains, lengths, "a", days) > end_served(chains, lengths, "b", days)
                for lengths in few for days in range(1, 1 + min(lengths["a"], lengths["b"])))
            self.assertIs(never_worse(Ends(chains), "a", "b"), not worse)
            counts[worse] += 1
        self.assertGreater(min(counts), 30)

    def test_ends_that_have_the_empty_string(self):
        # They are not marked themselves; the end counts, with days of the empty string's own.
        draw = random.Random(111)
        late = Ends([(("", 3), ("a", 1)), (("b", 2),)])
        self.assertEqual([self.check(late, "a", "b", draw), self.check(late, "b", "a", draw)], [False, False])
        late = Ends([(("", 3), ("a", 2), ("b", 2)), (("a", 2),)])
        self.assertEqual([self.check(late, "a", "b", draw), self.check(late, "b", "a", draw)], [True, True])


class BestServed(unittest.TestCase):

    def check(self, sheet, lengths, days):
        held = dict(lengths)
        told = {name: end(sheet, {**lengths, name: max(0, lengths[name] - days)}) for name in sheet.names}
        best = sorted(name for name in told if told[name] == min(told.values()))
        self.assertEqual(best_served(sheet, lengths, days), best)
        self.assertEqual(best_served(days=days, lengths=lengths, sheet=sheet), best)
        self.assertIs(type(best_served(sheet, lengths, days)), list)
        self.assertEqual([lengths, list(lengths)], [held, list(held)])
        return best

    def test_by_hand(self):
        told = [(0, ["a", "b", "c"]), (1, ["a", "b"]), (2, ["a", "b"]), (3, ["a"]), (4, ["a"]), (6, ["a"]),
                (10, ["a"]), (BIG, ["a"]), (10 ** 60, ["a"])]
        for days, names in told:
            self.assertEqual(self.check(SHEET, DAYS, days), names)
        self.assertEqual(self.check(Sheet([]), {}, 5), [])
        self.assertEqual(self.check(Sheet([]), {"a": 1}, 0), [])
        self.assertEqual(self.check(SHEET.quash("a"), DAYS, 3), ["c"])
        self.assertEqual(self.check(SHEET, {"a": 0, "b": 0, "c": 0, "z": 5}, 3), ["a", "b", "c"])

    def test_ascending_whatever_the_order_of_the_lines(self):
        sheet = Sheet([("c", ("now",), 12), ("b", ("behind", ("c",)), 12), ("a", ("behind", ("b",)), 12)])
        self.assertEqual(self.check(sheet, {"a": 2, "b": 2, "c": 2}, 1), ["a", "b", "c"])
        self.assertEqual(self.check(sheet, {"a": 2, "b": 1, "c": 2}, 2), ["a", "c"])

    def test_days_of_many_kinds(self):
        draw = random.Random(112)
        for sheet in itertools.chain([Sheet(MIXED), Sheet(MIXED, quashed=["a"])], drawn_sheets(113, 150, 8)):
            lengths = drawn_lengths(draw, sheet.names + ["z"])
            for days in (0, 1, 2, draw.randint(0, 20), BIG):
                self.check(sheet, lengths, days)

    def test_new_each_time(self):
        best_served(SHEET, DAYS, 0).clear()
        self.assertEqual(best_served(SHEET, DAYS, 0), ["a", "b", "c"])

    def test_bad_lengths(self):
        for value in WRONG_LENGTHS + ANY_VALUES:
            held = copy.deepcopy(value)
            for days in (0, 1, BIG):
                self.assertIs(raised(BadLengths, best_served, SHEET, value, days).value, value)
                self.assertIs(raised(BadLengths, best_served, days=days, lengths=value, sheet=SHEET).value, value)
            self.assertEqual(value, held)
        for value in any_values_but(dict):
            self.assertIs(raised(BadLengths, best_served, Sheet([]), value, 0).value, value)
        self.assertEqual(raised(BadLengths, best_served, Sheet([]), {"": 1}, 0).value, {"": 1})

    def test_put_best_they_are_put_where_they_are_never_worse(self):
        draw = random.Random(114)
        for sheet in drawn_sheets(115, 40, 5):
            days = draw.randint(1, 4)
            lengths = {name: draw.randint(days, 9) for name in sheet.names}
            best = best_served(sheet, lengths, days)
            for one, other in itertools.permutations(sheet.names, 2):
                if other in best and never_worse(ends_of(sheet), one, other):
                    self.assertIn(one, best)
            self.assertEqual(greatest(chains_of(sheet), lengths), end(sheet, lengths))
            self.assertTrue(all(summed(chain, lengths) <= end(sheet, lengths) for chain in chains_of(sheet)))
