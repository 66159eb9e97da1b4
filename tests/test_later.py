"""[12]: ends that are never later than other ends, papers that show it, and lengths that show it is not so."""

import copy
import itertools
import random
import unittest

from termlays.chains import chains_of
from termlays.ends import Ends, ends_of, least_ends_of
from termlays.later import is_later, is_paper, later_lengths, never_later, paper
from termlays.sheets import Sheet
from tests.samples import (
    ANY_VALUES, are_weights, drawn_chains, drawn_pairs, drawn_sheets, greatest, near_papers, small_sheets,
)
from tests.test_mixtures import mixes

HALVES, BOTH = Ends([(("a", 1), ("b", 1))]), Ends([(("a", 2),), (("b", 2),)])


def names_of(one, other):
    return sorted({name for chain in one.chains + other.chains for name, _ in chain})


def shows(one, other, value):
    """Whether any value is a paper, by the words of the document."""
    if type(value) is not list or len(value) != len(one.chains):
        return False
    for chain, weights in zip(one.chains, value):
        if not are_weights(weights, len(other.chains)) or not mixes(chain, other.chains, weights):
            return False
    return True


class Later(unittest.TestCase):

    def check_way(self, one, other):
        """Either a paper shows that the one is never later, or lengths show that it is not so."""
        told, lengths = paper(one, other), later_lengths(one, other)
        self.assertEqual([paper(other=other, one=one), later_lengths(other=other, one=one)], [told, lengths])
        if told is None:
            self.assertIs(type(lengths), dict)
            self.assertEqual(sorted(lengths), names_of(one, other))
            self.assertTrue(all(type(days) is int and days >= 0 for days in lengths.values()))
            self.assertGreater(greatest(one.chains, lengths), greatest(other.chains, lengths))
            self.assertIs(is_later(one, other, lengths), True)
            self.assertIs(is_later(value=lengths, other=other, one=one), True)
            self.assertIs(is_later(other, one, lengths), False)
            self.assertIsNot(later_lengths(one, other), lengths)
        else:
            self.assertTrue(shows(one, other, told))
            self.assertIsNone(lengths)
            self.assertIs(is_paper(one, other, told), True)
            self.assertIs(is_paper(value=told, other=other, one=one), True)
            self.assertIsNot(paper(one, other), told)
        self.assertIs(never_later(one, other), told is not None)
        self.assertIs(never_later(other=other, one=one), told is not None)
        return told is not None

    def check(self, one, other):
        """Both ways round; nothing is changed."""
        held = [one.chains, other.chains]
        ways = (self.check_way(one, other), self.check_way(other, one))
        self.assertEqual([one.chains, other.chains], held)
        return ways

    def test_by_hand(self):
        told = [
            ([(("a", 1), ("b", 1))], [(("a", 2),), (("b", 2),)], (True, False)),
            ([(("a", 1), ("b", 1))], [(("a", 2),), (("b", 1),)], (False, False)),
            ([(("a", 3), ("b", 1))], [(("a", 4),), (("b", 4),)], (True, False)),
            ([(("a", 4), ("b", 1))], [(("a", 4),), (("b", 4),)], (False, False)),
            ([()], [()], (True, True)), ([()], [(("a", 1),)], (True, False)), ([()], [(("", 1),)], (True, False)),
            ([(("", 1),)], [(("", 2),)], (True, False)), ([(("", 5),)], [(("a", 5),)], (False, False)),
            ([(("", 1), ("a", 1))], [(("", 2),), (("a", 2),)], (True, False)),
            ([(("", 1), ("a", 1))], [(("", 2),), (("a", 1),)], (False, False)),
            ([(("a", 1),), (("b", 1),)], [(("a", 1), ("b", 1))], (True, False)),
            ([(("a", 1), ("b", 1))], [(("a", 1), ("b", 1), ("c", 1))], (True, False)),
            ([(("a", 10 ** 60),)], [(("a", 10 ** 60 - 1), ("b", 10 ** 60))], (False, False)),
        ]
        for one, other, ways in told:
            with self.subTest(one=one, other=other):
                self.assertEqual(self.check(Ends(one), Ends(other)), ways)

    def test_drawn_pairs(self):
        counts = {}
        for one, other in drawn_pairs(60, 900):
            with self.subTest(one=one.chains, other=other.chains):
                ways = self.check(one, other)
                self.assertIs(ways == (True, True), one.chains == other.chains)
                counts[ways] = counts.get(ways, 0) + 1
        self.assertEqual(len(counts), 4)
        self.assertGreater(min(counts.values()), 60)

    def test_nine_names_and_a_hundred_chains(self):
        draw = random.Random(61)
        for most in (3, 144, 10 ** 60):
            for names in ("abcdefgh", ["", *"abcdefgh"]):
                chains = [tuple((name, draw.randint(max(1, most // 2), most)) for name in names) for _ in range(50)]
                one, other = Ends(chains[:40]), Ends(chains[10:])
                few, others = Ends(chains[:9]), Ends(chains[9:18])
                pairs = [(one, other), (one, one | other), (few + others, others), (few + few, few * 2)]
                for left, right in pairs:
                    self.check(left, right)

    def test_days_of_the_empty_string_are_its_own(self):
        one, other = Ends([(("", 3), ("a", 1))]), Ends([(("", 2), ("a", 9))])
        self.assertEqual(self.check(one, other), (False, False))
        lengths = later_lengths(one, other)
        self.assertEqual(sorted(lengths), ["", "a"])
        self.assertGreater(lengths[""], 8 * lengths["a"])
        self.assertIs(is_later(one, other, {"": 9, "a": 1}), True)
        self.assertIs(is_later(one, other, {"": 8, "a": 1}), False)
        self.assertIs(is_later(one, other, {"": 10 ** 60, "a": 10 ** 59}), True)

    def test_names_of_beaten_chains_alone_are_none_of_both(self):
        one = Ends([(("a", 3),), (("a", 1),)])
        other = Ends([(("a", 2),), (("b", 2),), (("a", 1), ("b", 1))])
        self.assertEqual(sorted(later_lengths(one, other)), ["a", "b"])
        self.assertEqual(sorted(later_lengths(one, Ends([(("a", 2),)]) | Ends([(("a", 1),)]))), ["a"])
        self.assertEqual(sorted(later_lengths(one, Ends([()]))), ["a"])


class Papers(unittest.TestCase):

    def test_by_hand(self):
        for value in ([(2, 2)], [(1, 1)], [(10 ** 60, 10 ** 60)]):
            self.assertIs(is_paper(HALVES, BOTH, value), True)
        for value in ([(1, 2)], [(2, 1)], [(1, 0)], [(0, 0)], [(-1, -1)], [(True, True)], [(True, 1)], [[1, 1]],
                      ((1, 1),), [(1, 1), (1, 1)], [], [(1, 1, 0)], [(1,)], (1, 1), [1, 1], [((1, 1),)], [None], None):
            self.assertIs(is_paper(HALVES, BOTH, value), False)
        self.assertIs(is_paper(BOTH, BOTH, [(1, 0), (0, 1)]), True)
        self.assertIs(is_paper(BOTH, BOTH, [(0, 1), (1, 0)]), False)
        self.assertIs(is_paper(Ends([()]), BOTH, [(0, 5)]), True)
        self.assertIs(is_paper(Ends([()]), BOTH, [(0, 0)]), False)
        self.assertIs(is_paper(Ends([()]), BOTH, [()]), False)

    def test_near_ones(self):
        draw = random.Random(62)
        counts = [0, 0]
        for one, other in drawn_pairs(63, 250):
            told = paper(one, other)
            if told is not None:
                for value in near_papers(draw, told):
                    held = copy.deepcopy(value)
                    right = shows(one, other, value)
                    self.assertIs(is_paper(one, other, value), right, (one.chains, other.chains, value))
                    self.assertEqual(value, held)
                    counts[right] += 1
        self.assertGreater(min(counts), 300)

    def test_any_values(self):
        for value in ANY_VALUES:
            held = copy.deepcopy(value)
            self.assertIs(is_paper(HALVES, BOTH, value), False)
            self.assertIs(is_paper(HALVES, BOTH, [value]), value == (1, 1))
            self.assertIs(is_paper(other=BOTH, value=[(1, value)], one=HALVES), type(value) is int and value == 1)
            self.assertEqual(value, held)

    def test_of_ends_for_which_there_is_none(self):
        for value in ([(1,), (1,)], [(1,), (0,)], [(1, 1)], [(1,)]):
            self.assertIs(is_paper(BOTH, HALVES, value), False)


class Lengths(unittest.TestCase):

    def test_by_hand(self):
        for value, right in (({"a": 1, "b": 0}, True), ({"b": 7, "a": 0}, True), ({"a": 3, "b": 2}, True),
                             ({"a": 1, "b": 1}, False), ({"a": 0, "b": 0}, False), ({"a": 10 ** 60, "b": 1}, True)):
            self.assertIs(is_later(BOTH, HALVES, value), right)
            self.assertIs(is_later(HALVES, BOTH, value), False)

    def test_near_ones(self):
        right = {"a": 5, "b": 0}
        wrong = [
            {}, {"a": 5}, {"b": 0}, {**right, "c": 0}, {**right, "": 1}, {**right, "": 0}, {**right, "A": 1},
            {**right, 1: 1}, {**right, (): 1}, {"a": 5, "c": 0}, {"a": 5, "b": -1}, {"a": -5, "b": 1},
            {"a": True, "b": 0}, {"a": 5, "b": False}, {"a": 5, "b": None}, {"a": "5", "b": 0}, {"a": (5,), "b": 0},
            {"a": [5], "b": [0]}, [right], (right,), [("a", 5), ("b", 0)], (("a", 5), ("b", 0)), ["a", "b"], "ab",
            {("a", 5): ("b", 0)}, {"A": 5, "B": 0}, {"a": 5, "": 0},
        ]
        self.assertIs(is_later(BOTH, HALVES, right), True)
        for value in wrong + ANY_VALUES:
            held = copy.deepcopy(value)
            with self.subTest(value=value):
                self.assertIs(is_later(BOTH, HALVES, value), False)
                self.assertIs(is_later(value=value, one=BOTH, other=HALVES), False)
                self.assertEqual(value, held)
        for value in ANY_VALUES:
            self.assertIs(is_later(BOTH, HALVES, {"a": value, "b": 0}), type(value) is int and value > 0)

    def test_the_empty_string_needs_days_just_if_it_is_there(self):
        one, other = Ends([(("", 1), ("a", 2))]), Ends([(("a", 2),)])
        self.assertIs(is_later(one, other, {"": 1, "a": 0}), True)
        for value in ({"a": 0}, {"": 0, "a": 1}, {"": 1}, {"": 1, "a": 0, "b": 0}, {"": True, "a": 0}):
            self.assertIs(is_later(one, other, value), False)

    def test_of_ends_without_names(self):
        self.assertIs(is_later(Ends([()]), Ends([()]), {}), False)
        self.assertIs(is_later(Ends([(("a", 1),)]), Ends([()]), {"a": 1}), True)
        self.assertIs(is_later(Ends([()]), Ends([(("a", 1),)]), {"a": 0}), False)

    def test_against_own_sums(self):
        draw = random.Random(64)
        counts = [0, 0]
        for one, other in drawn_pairs(65, 400):
            for _ in range(4):
                value = {name: draw.choice([0, 1, 2, 10 ** 30]) for name in names_of(one, other)}
                right = greatest(one.chains, value) > greatest(other.chains, value)
                self.assertIs(is_later(one, other, value), right)
                counts[right] += 1
        self.assertGreater(min(counts), 200)


class Orders(unittest.TestCase):

    def some(self, seed):
        draw = random.Random(seed)
        return [Ends(drawn_chains(draw, draw.choice(["ab", ["", "a"]]), 2, draw.randint(1, 3))) for _ in range(24)]

    def test_goes_on_from_one_to_the_next_and_holds_both_ways_of_equal_ones(self):
        some = self.some(66)
        less = {(at, to): never_later(some[at], some[to]) for at in range(24) for to in range(24)}
        for at, to in itertools.product(range(24), repeat=2):
            self.assertIs(less[at, to] and less[to, at], some[at] == some[to])
            for last in range(24):
                self.assertFalse(less[at, to] and less[to, last] and not less[at, last])

    def test_stays_with_what_both_are_put_together(self):
        draw = random.Random(67)
        some = self.some(68)
        for one, other in itertools.product(some, some[:12]):
            last, times = draw.choice(some), draw.randint(1, 5)
            self.assertTrue(never_later(one, one | other))
            self.assertTrue(never_later(one, one + other))
            self.assertTrue(never_later(one.without("a"), one))
            self.assertIs(never_later(one | other, one), never_later(other, one))
            self.assertIs(never_later(one * times, other * times), never_later(one, other))
            self.assertTrue(never_later(one * 0, other * 0))
            if never_later(one, other):
                self.assertTrue(never_later(one + last, other + last))
                self.assertTrue(never_later(last + one, last + other))
                self.assertTrue(never_later(one | last, other | last))
                self.assertTrue(never_later(one * times, other * (times + 1)))
                self.assertEqual(one | other, other)


def lies_within(chain, chains):
    return any(all(dict(other).get(name, 0) >= parts for name, parts in chain) for other in chains)


def few_days(names):
    """Lengths in which one term has 1 day, or one has 13 days and another one 1 day, and all others none."""
    for name in names:
        yield {**{other: 0 for other in names}, name: 1}
    for name, second in itertools.permutations(names, 2):
        yield {**{other: 0 for other in names}, name: 13, second: 1}


class OfSheets(unittest.TestCase):

    def check(self, one, other):
        """Never later just if each chain lies within a chain of the other; if not, lengths of few days show it."""
        late, last = ends_of(one), ends_of(other)
        ahead = all(lies_within(chain, chains_of(other)) for chain in chains_of(one))
        self.assertIs(never_later(late, last), ahead)
        shown = [days for days in few_days(one.names) if late.at(days) > last.at(days)]
        self.assertIs(not shown, ahead)
        return ahead

    def test_small_sheets(self):
        draw = random.Random(69)
        counts = [0, 0]
        sheets = [sheet for sheet in small_sheets() if len(sheet) == 3]
        for _ in range(1500):
            counts[self.check(*draw.sample(sheets, 2))] += 1
        self.assertGreater(min(counts), 100)

    def test_drawn_sheets(self):
        counts = [0, 0]
        sheets = {}
        for sheet in drawn_sheets(70, 200, 6):
            for other in sheets.get(len(sheet), [])[-3:]:
                counts[self.check(sheet, other)] += 1
                counts[self.check(other, sheet)] += 1
            sheets.setdefault(len(sheet), []).append(sheet)
        self.assertGreater(min(counts), 100)

    def test_least_ends_are_never_later(self):
        for sheet in drawn_sheets(71, 60, 7):
            self.assertTrue(never_later(least_ends_of(sheet), ends_of(sheet)))

    def test_a_mixture_is_needed_beyond_the_ends_of_sheets(self):
        sheet = Sheet([("a", ("now",), 12), ("b", ("now",), 12)])
        halves = Ends([(("a", 72), ("b", 72))])
        self.assertIs(never_later(halves, ends_of(sheet)), True)
        self.assertIs(lies_within(halves.chains[0], chains_of(sheet)), False)
