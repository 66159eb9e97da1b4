"""[13], [14]: ranges, their corners, and ends in them."""

import copy
import itertools
import random
import unittest

from termlays.ends import Ends, ends_of
from termlays.errors import BadRanges, NoLengths
from termlays.games import is_settled, settled
from termlays.later import never_later
from termlays.ranges import (
    amounts, corners, greatest_end, is_later_in, is_paper_in, later_in, least_end_in, paper_in,
)
from termlays.sheets import Sheet
from tests.samples import (
    ANY_VALUES, BIG, are_weights, drawn_chains, drawn_pairs, greatest, near_papers, near_weights, raised, summed,
)

LATE = Ends([(("a", 2),), (("b", 2),)])
HALVES = Ends([(("a", 1), ("b", 1))])
WRONG = [
    {"a": [0, 2], "b": (1, 1)}, {"a": (0, 2), "b": (2, 1)}, {"a": (-1, 2), "b": (1, 1)}, {"a": (0, True), "b": (1, 1)},
    {"a": (False, 2), "b": (1, 1)}, {"a": (0, 2), "b": (1,)}, {"a": (0, 2), "b": (1, 1, 1)}, {"a": (0, 2), "b": ()},
    {"a": (0, 2), "b": 1}, {"a": (0, 2), "b": None}, {"a": (0, "2"), "b": (1, 1)}, {"a": (None, 2), "b": (1, 1)},
    {"a": (0, 2), "b": "01"}, {"a": (0, 2), "b": {0: 0, 1: 1}}, {"a": (0, 2), "b": (1, 1), "": (1, 1)},
    {"a": (0, 2), "b": (1, 1), "C": (1, 1)}, {"a": (0, 2), "b": (1, 1), 1: (1, 1)}, {("a",): (0, 2), "b": (1, 1)},
    {"a": (0, 2), "b": (1, 1), None: (0, 0)}, {"a": (0, 2), "b": (1, 1), "ninechars": (0, 0)},
    {"a": (0, 2), "b": (1, 1), "c": (3, 2)}, [("a", (0, 2)), ("b", (1, 1))], (("a", (0, 2)),), ["a", "b"], "ab",
    {"a": ((0, 2),), "b": (1, 1)}, {"a": (0, -1), "b": (1, 1)}, {"a": (0, [2]), "b": (1, 1)}, [{"a": (0, 2)}], [], (),
]
NO_RANGES = WRONG + [value for value in ANY_VALUES if value != {}]


def lengths_in(ranges, total):
    """All lengths that lie in the ranges."""
    names = sorted(ranges)
    for days in itertools.product(*[range(ranges[name][0], ranges[name][1] + 1) for name in names]):
        if total is None or sum(days) == total:
            yield dict(zip(names, days))


def corners_of(ranges, total):
    """The corners, by the words of the document, of all lengths that lie in the ranges."""
    some = []
    for lengths in lengths_in(ranges, total):
        between = sum(lengths[name] not in ranges[name] for name in ranges)
        if between <= (total is not None):
            some.append(lengths)
    return sorted(some, key=lambda lengths: tuple(lengths[name] for name in sorted(lengths)))


def drawn_ranges(draw, names, most):
    ranges = {}
    for name in draw.sample(sorted(names), len(names)):
        low = draw.choice([0, draw.randint(0, most)])
        ranges[name] = (low, draw.choice([low, draw.randint(low, low + most)]))
    return ranges


def drawn_total(draw, ranges):
    """A sum that some lengths in the ranges have, or none at all."""
    if draw.random() < 0.4:
        return None
    low, high = [sum(span[at] for span in ranges.values()) for at in (0, 1)]
    return draw.choice([low, high, draw.randint(low, high), (low + high) // 2])


class Corners(unittest.TestCase):

    def test_by_hand(self):
        told = [
            ({}, None, [{}]), ({}, 0, [{}]),
            ({"a": (2, 5)}, None, [{"a": 2}, {"a": 5}]), ({"a": (2, 2)}, None, [{"a": 2}]),
            ({"a": (2, 5)}, 3, [{"a": 3}]), ({"a": (2, 5)}, 5, [{"a": 5}]), ({"a": (2, 5)}, 2, [{"a": 2}]),
            ({"b": (0, 1), "a": (2, 2)}, None, [{"a": 2, "b": 0}, {"a": 2, "b": 1}]),
            ({"b": (0, 1), "a": (2, 3)}, 3, [{"a": 2, "b": 1}, {"a": 3, "b": 0}]),
            ({"a": (0, 2), "b": (0, 2)}, 2, [{"a": 0, "b": 2}, {"a": 2, "b": 0}]),
            ({"a": (0, 2), "b": (0, 2)}, 3, [{"a": 1, "b": 2}, {"a": 2, "b": 1}]),
            ({"a": (0, 4), "b": (1, 1), "c": (0, 9)}, 5,
             [{"a": 0, "b": 1, "c": 4}, {"a": 4, "b": 1, "c": 0}]),
            ({"a": (0, 3), "b": (0, 3), "c": (0, 3)}, 3,
             [{"a": 0, "b": 0, "c": 3}, {"a": 0, "b": 3, "c": 0}, {"a": 3, "b": 0, "c": 0}]),
            ({"a": (9, 10), "b": (2, 10)}, None,
             [{"a": 9, "b": 2}, {"a": 9, "b": 10}, {"a": 10, "b": 2}, {"a": 10, "b": 10}]),
        ]
        for ranges, total, some in told:
            with self.subTest(ranges=ranges, total=total):
                self.assertEqual(corners(ranges, total=total), some)
                self.assertEqual(corners(total=total, ranges=ranges), some)
                self.assertEqual(corners_of(ranges, total), some)
        self.assertEqual(corners({"a": (2, 5)}), [{"a": 2}, {"a": 5}])

    def test_none_to_five_names_against_all_lengths(self):
        draw = random.Random(80)
        for _ in range(150):
            ranges = drawn_ranges(draw, "abcdefgh"[:draw.randint(0, 5)], draw.randint(1, 3))
            high = sum(span[1] for span in ranges.values())
            for total in [None, *range(-1, high + 2)]:
                some = corners_of(ranges, total)
                if some:
                    self.assertEqual(corners(ranges, total=total), some, (ranges, total))
                else:
                    raised(NoLengths, corners, ranges, total=total)

    def test_five_names_and_days_of_thirty_digits(self):
        draw = random.Random(81)
        for _ in range(60):
            names = ["zz", "a", "ab", "b", "abcdefgh"]
            ranges = {name: tuple(sorted(draw.randint(0, BIG) for _ in range(2))) for name in names}
            some = corners(ranges)
            self.assertEqual(len(some), 32)
            self.assertEqual([sorted(lengths) for lengths in some], [sorted(names)] * 32)
            days = [tuple(lengths[name] for name in sorted(names)) for lengths in some]
            self.assertEqual(days, list(itertools.product(*[ranges[name] for name in sorted(names)])))
            total = drawn_total(draw, ranges)
            if total is not None:
                self.check_summed(ranges, total, names)

    def check_summed(self, ranges, total, names):
        """All corners with a told sum, from each name as the one in between."""
        days = set()
        for between in names:
            others = [name for name in names if name != between]
            for told in itertools.product(*[ranges[name] for name in others]):
                lengths = {**dict(zip(others, told)), between: total - sum(told)}
                if ranges[between][0] <= lengths[between] <= ranges[between][1]:
                    days.add(tuple(lengths[name] for name in sorted(names)))
        some = corners(ranges, total=total)
        self.assertEqual([tuple(lengths[name] for name in sorted(names)) for lengths in some], sorted(days))

    def test_no_lengths(self):
        for ranges, total in (({}, 1), ({}, -1), ({"a": (2, 5)}, 1), ({"a": (2, 5)}, 6), ({"a": (0, 5)}, -1),
                              ({"a": (1, 2), "b": (1, 2)}, 5), ({"a": (1, 2), "b": (1, 2)}, 1)):
            held = copy.deepcopy(ranges)
            self.assertEqual(raised(NoLengths, corners, ranges, total=total).args, ())
            self.assertEqual(ranges, held)

    def test_bad_ranges(self):
        for value in NO_RANGES:
            held = copy.deepcopy(value)
            for total in (None, 1, -1):
                with self.subTest(value=value, total=total):
                    self.assertIs(raised(BadRanges, corners, value, total=total).value, value)
                    self.assertIs(raised(BadRanges, corners, total=total, ranges=value).value, value)
            self.assertEqual(value, held)

    def test_new_each_time(self):
        ranges = {"b": (0, 1), "a": (1, 2)}
        some = corners(ranges)
        self.assertEqual([type(some), [type(lengths) for lengths in some]], [list, [dict] * 4])
        some[0]["a"] = 7
        some.pop()
        self.assertEqual(corners(ranges), [{"a": a, "b": b} for a in (1, 2) for b in (0, 1)])
        self.assertEqual([ranges, list(ranges)], [{"b": (0, 1), "a": (1, 2)}, ["b", "a"]])
        self.assertEqual(corners({"a": (1, 2), "b": (0, 1)}), corners(ranges))


class Errors(unittest.TestCase):

    def calls(self, late, other, ranges, total):
        """All functions but corners, for ranges and a told sum."""
        told = {"total": total}
        return [
            (amounts, (late, ranges), told), (greatest_end, (late, ranges), told), (least_end_in, (late, ranges), told),
            (paper_in, (late, other, ranges), told), (paper_in, (other, late, ranges), told),
            (later_in, (late, other, ranges), told), (later_in, (other, late, ranges), told),
            (is_paper_in, (late, other, ranges, []), told), (is_paper_in, (other, late, ranges, None), told),
            (is_later_in, (late, other, ranges, (1,)), told), (is_later_in, (other, late, ranges, None), told),
        ]

    def test_bad_ranges(self):
        for value in NO_RANGES:
            held = copy.deepcopy(value)
            for total in (None, 3, -1):
                for call, given, named in self.calls(LATE, Ends([()]), value, total):
                    with self.subTest(call=call.__name__, value=value):
                        self.assertIs(raised(BadRanges, call, *given, **named).value, value)
            self.assertEqual(value, held)

    def test_a_name_is_lacking(self):
        late = Ends([(("", 5), ("a", 2)), (("b", 2),)])
        for value in ({}, {"a": (0, 1)}, {"b": (0, 1)}, {"a": (0, 1), "c": (0, 1)}, {"ab": (0, 1), "b": (0, 1)}):
            for total in (None, 1, -1, 100):
                for call, given, named in self.calls(late, Ends([()]), value, total):
                    self.assertIs(raised(BadRanges, call, *given, **named).value, value)

    def test_no_lengths(self):
        late = Ends([(("", 5), ("a", 2)), (("b", 2),)])
        ranges = {"b": (0, 2), "a": (1, 1), "c": (0, 1)}
        for total in (0, -1, 5, 10 ** 30):
            for call, given, named in self.calls(late, LATE, ranges, total):
                self.assertEqual(raised(NoLengths, call, *given, **named).args, ())
        self.assertEqual([ranges, list(ranges)], [{"b": (0, 2), "a": (1, 1), "c": (0, 1)}, ["b", "a", "c"]])

    def test_names_beyond_and_the_empty_string(self):
        late = Ends([(("", 5), ("a", 2)), (("b", 2),)])
        for total in (None, 1):
            for call, given, named in self.calls(late, Ends([(("", 1),)]), {"b": (0, 1), "z": (0, 1), "a": (0, 1)}, total):
                call(*given, **named)
        for call, given, named in self.calls(Ends([()]), Ends([(("", 1),)]), {}, None):
            call(*given, **named)


class Amounts(unittest.TestCase):

    def test_by_hand(self):
        ranges = {"b": (1, 1), "a": (0, 2)}
        self.assertEqual(amounts(LATE, ranges), [[0, 2], [4, 2]])
        self.assertEqual([greatest_end(LATE, ranges), least_end_in(LATE, ranges)], [4, (2, 1)])
        self.assertEqual(amounts(LATE, ranges, total=2), [[2, 2]])
        late = Ends([(("", 5), ("a", 2)), (("b", 9),)])
        self.assertEqual(amounts(late, ranges), [[5, 9], [9, 9]])
        self.assertEqual(amounts(late, ranges, total=1), [[5, 9]])
        self.assertEqual(amounts(ends=late, total=3, ranges=ranges), [[9, 9]])
        self.assertEqual([greatest_end(late, ranges), least_end_in(late, ranges)], [9, (9, 1)])
        self.assertEqual(amounts(Ends([()]), {}), [[0]])
        self.assertEqual([greatest_end(Ends([()]), {}), least_end_in(Ends([()]), {})], [0, (0, 1)])
        self.assertEqual(amounts(Ends([(("", 3),)]), {"a": (0, 1)}), [[3], [3]])
        one = Ends([(("a", 1),), (("b", 1),)])
        self.assertEqual(least_end_in(one, {"a": (0, 1), "b": (0, 1)}, total=1), (1, 2))
        self.assertEqual(least_end_in(total=5, ends=one, ranges={"a": (0, 9), "b": (0, 9)}), (5, 2))
        self.assertEqual(greatest_end(total=5, ends=one, ranges={"a": (0, 9), "b": (0, 9)}), 5)

    def test_drawn_ones(self):
        draw = random.Random(82)
        for late, _ in drawn_pairs(83, 300):
            ranges = drawn_ranges(draw, "abcde", draw.choice([1, 2, BIG // 2]))
            total = drawn_total(draw, ranges)
            if draw.random() < 0.5:
                ranges = {name: ranges[name] for name in ranges if name in late.names}
                total = drawn_total(draw, ranges)
            matrix = [[summed(chain, lengths) for chain in late.chains] for lengths in corners(ranges, total=total)]
            self.assertEqual(amounts(late, ranges, total=total), matrix)
            self.assertEqual(greatest_end(late, ranges, total=total), max(map(max, matrix)))
            value = least_end_in(late, ranges, total=total)
            self.assertIs(is_settled(matrix, (value, *settled(matrix)[1:])), True)
            self.assertIsNot(amounts(late, ranges, total=total), amounts(late, ranges, total=total))

    def test_at_all_lengths_in_the_ranges(self):
        draw = random.Random(84)
        for late, _ in drawn_pairs(85, 60, "abcd"):
            ranges = drawn_ranges(draw, "abcde", 2)
            total = drawn_total(draw, ranges)
            told = [greatest(late.chains, lengths) for lengths in lengths_in(ranges, total)]
            self.assertEqual(greatest_end(late, ranges, total=total), max(told))
            top, bottom = least_end_in(late, ranges, total=total)
            self.assertLessEqual(top, bottom * min(told))

    def test_less_than_at_each_corner(self):
        late = Ends([(("a", 144),), (("b", 144),), (("c", 144),)])
        ranges = {name: (0, 7) for name in "abc"}
        self.assertEqual(least_end_in(late, ranges, total=7), (336, 1))
        self.assertEqual(least_end_in(late, ranges, total=2), (96, 1))
        self.assertEqual(least_end_in(late * 10 ** 50, ranges, total=1), (48 * 10 ** 50, 1))
        self.assertEqual(least_end_in(Ends([(("a", 5),), (("b", 3),)]), {"a": (0, 1), "b": (0, 1)}, total=1), (15, 8))


def shows(one, other, some, value):
    """Whether any value is a paper at the corners, by the words of the document."""
    if type(value) is not list or len(value) != len(one.chains):
        return False
    for chain, weights in zip(one.chains, value):
        if not are_weights(weights, len(other.chains)):
            return False
        for lengths in some:
            told = sum(weight * summed(last, lengths) for weight, last in zip(weights, other.chains))
            if told < summed(chain, lengths) * sum(weights):
                return False
    return True


def shows_later(one, other, some, value):
    """Whether any value is weights of the corners that show that the one is later, by the words of the document."""
    if not are_weights(value, len(some)):
        return False
    return mixed_end(one, some, value) > mixed_end(other, some, value)


def mixed_end(late, some, weights):
    """The greatest amount at the mixture of the corners, times the sum of the weights."""
    return max(sum(weight * summed(chain, lengths) for weight, lengths in zip(weights, some)) for chain in late.chains)


class InRanges(unittest.TestCase):

    def check(self, one, other, ranges, total):
        """Either a paper or weights of the corners are told, and show it; near ones are told apart."""
        draw = random.Random(86)
        told, weights = paper_in(one, other, ranges, total=total), later_in(one, other, ranges, total=total)
        some = corners(ranges, total=total)
        self.assertNotEqual(told is None, weights is None)
        if told is None:
            self.assertTrue(shows_later(one, other, some, weights))
            for value in [weights, *near_weights(draw, weights)]:
                right = shows_later(one, other, some, value)
                self.assertIs(is_later_in(one, other, ranges, value, total=total), right)
        else:
            self.assertTrue(shows(one, other, some, told))
            self.assertIsNot(paper_in(one, other, ranges, total=total), told)
            for value in [told, *near_papers(draw, told)]:
                right = shows(one, other, some, value)
                self.assertIs(is_paper_in(one, other, ranges, value, total=total), right, (told, value))
        self.assertEqual(
            [paper_in(other=other, ranges=ranges, total=total, one=one),
             later_in(total=total, ranges=ranges, other=other, one=one)], [told, weights],
        )
        return told is not None

    def test_by_hand(self):
        told = [
            (HALVES, LATE, {"a": (0, 5), "b": (0, 5)}, None, (True, False)),
            (HALVES, LATE, {"a": (2, 2), "b": (2, 2)}, None, (True, True)),
            (Ends([(("a", 1),)]), Ends([(("b", 1),)]), {"a": (0, 3), "b": (3, 5)}, None, (True, False)),
            (Ends([(("a", 1),)]), Ends([(("b", 1),)]), {"a": (0, 4), "b": (3, 5)}, None, (False, False)),
            (Ends([(("a", 1),)]), Ends([(("b", 1),)]), {"a": (0, 4), "b": (3, 5)}, 6, (True, False)),
            (Ends([(("a", 1),)]), Ends([(("b", 1),)]), {"a": (0, 4), "b": (3, 5)}, 7, (False, False)),
            (Ends([(("", 3),)]), Ends([(("a", 1),)]), {"a": (3, 9)}, None, (True, False)),
            (Ends([(("", 3),)]), Ends([(("a", 1),)]), {"a": (2, 9)}, None, (False, False)),
            (Ends([(("", 3),)]), Ends([(("", 2),)]), {}, None, (False, True)),
            (Ends([()]), Ends([()]), {}, 0, (True, True)),
            (Ends([(("a", 1), ("b", 1))]), Ends([(("", 5),)]), {"a": (0, 5), "b": (0, 5)}, 5, (True, True)),
            (Ends([(("a", 1), ("b", 1))]), Ends([(("", 5),)]), {"a": (0, 5), "b": (0, 5)}, 6, (False, True)),
        ]
        for one, other, ranges, total, ways in told:
            with self.subTest(one=one.chains, other=other.chains, ranges=ranges, total=total):
                self.assertEqual(
                    (self.check(one, other, ranges, total), self.check(other, one, ranges, total)), ways)

    def test_a_mixture_of_corners_is_later_though_no_corner_is(self):
        one, other = Ends([(("a", 2), ("b", 2))]), Ends([(("a", 4),), (("b", 4),)])
        ranges = {"a": (0, 2), "b": (0, 2)}
        self.assertIs(self.check(other, one, ranges, 2), False)
        self.assertIs(self.check(one, other, ranges, 2), True)
        near = Ends([(("a", 3),), (("b", 3),)])
        self.assertTrue(all(near.at(lengths) >= one.at(lengths) for lengths in corners(ranges, total=2)))
        self.assertIs(self.check(one, near, ranges, 2), False)
        self.assertIs(is_later_in(one, near, ranges, (1, 1), total=2), True)
        self.assertIs(is_later_in(one, near, ranges, (1, 0), total=2), False)

    def test_drawn_pairs(self):
        draw = random.Random(87)
        counts = {}
        for one, other in drawn_pairs(88, 400):
            ranges = drawn_ranges(draw, "abcde", draw.choice([1, 2, 5, BIG // 2]))
            total = drawn_total(draw, ranges)
            with self.subTest(one=one.chains, other=other.chains, ranges=ranges, total=total):
                for left, right in ((one, other), (other, one)):
                    never = self.check(left, right, ranges, total)
                    if never_later(left, right):
                        self.assertTrue(never)
                    key = (never, never_later(left, right))
                    counts[key] = counts.get(key, 0) + 1
        self.assertEqual(sorted(counts), [(False, False), (True, False), (True, True)])
        self.assertGreater(min(counts.values()), 80)

    def test_where_it_is_never_later_no_lengths_in_the_ranges_are_later(self):
        draw = random.Random(89)
        counts = [0, 0]
        for one, other in drawn_pairs(90, 150, ("", "a", "b", "c")):
            ranges = drawn_ranges(draw, "abcde", 2)
            total = drawn_total(draw, ranges)
            later = [days for days in lengths_in(ranges, total)
                     if greatest(one.chains, days) > greatest(other.chains, days)]
            never = paper_in(one, other, ranges, total=total) is not None
            self.assertFalse(never and later)
            counts[never] += 1
        self.assertGreater(min(counts), 15)

    def test_the_empty_string_has_one_day(self):
        one, other = Ends([(("", 7),)]), Ends([(("a", 2),)])
        self.assertIs(never_later(one, other), False)
        self.assertIs(is_paper_in(one, other, {"a": (4, 5)}, [(1,)]), True)
        self.assertIs(is_paper_in(one, other, {"a": (3, 5)}, [(1,)]), False)
        self.assertIs(is_later_in(one, other, {"a": (3, 4)}, (1, 0)), True)
        self.assertIs(is_later_in(one, other, {"a": (3, 4)}, (0, 1)), False)
        self.assertIs(is_later_in(one, other, {"a": (3, 4)}, (1, 1)), False)
        self.assertIs(is_later_in(one, other, {"a": (3, 4)}, (2, 1)), True)

    def test_values_of_any_kind(self):
        ranges = {"a": (0, 5), "b": (0, 5)}
        for value in ANY_VALUES:
            held = copy.deepcopy(value)
            self.assertIs(is_paper_in(HALVES, LATE, ranges, value), False)
            self.assertIs(is_paper_in(HALVES, LATE, ranges, [value]), value == (1, 1))
            self.assertIs(is_later_in(LATE, HALVES, ranges, value), False)
            self.assertIs(is_later_in(LATE, HALVES, ranges, value, total=5), False)
            self.assertIs(is_later_in(LATE, HALVES, ranges, (0, value, 0, 0)), type(value) is int and value > 0)
            self.assertEqual(value, held)
        self.assertIs(is_later_in(total=5, value=(1, 0), ranges=ranges, other=HALVES, one=LATE), True)
        self.assertIs(is_paper_in(total=5, value=[(3, 3)], ranges=ranges, other=LATE, one=HALVES), True)

    def test_sheets_that_end_together_in_ranges_alone(self):
        one = Sheet([("a", ("now",), 12), ("b", ("now",), 12)])
        other = Sheet([("a", ("now",), 12), ("b", ("split", "a", 6), 12)])
        late, last = ends_of(one), ends_of(other)
        self.assertIs(never_later(last, late), False)
        self.assertIs(self.check(last, late, {"a": (0, 3), "b": (6, 9)}, None), True)
        self.assertIs(self.check(last, late, {"a": (0, 3), "b": (5, 9)}, None), False)

    def test_five_names_and_a_hundred_chains(self):
        draw = random.Random(91)
        for most in (3, 144, 10 ** 60):
            chains = [tuple((name, draw.randint(max(1, most // 2), most)) for name in ["", *"abcde"]) for _ in range(99)]
            one, other = Ends(chains[:60]), Ends(chains[30:])
            ranges = {name: tuple(sorted(draw.randint(0, BIG) for _ in range(2))) for name in "abcde"}
            for total in (None, sum(low + high for low, high in ranges.values()) // 2):
                self.check(one | other, other, ranges, total)
                matrix = amounts(one | other, ranges, total=total)
                value = least_end_in(one | other, ranges, total=total)
                self.assertIs(is_settled(matrix, (value, *settled(matrix)[1:])), True)

    def test_ends_of_few_chains_near_the_edge(self):
        draw = random.Random(92)
        for _ in range(200):
            one, other = [Ends(drawn_chains(draw, ["", "a", "b"], 3, draw.randint(1, 3))) for _ in range(2)]
            self.check(one, other, {"a": (0, 1), "b": (0, 2)}, draw.choice([None, 1, 2]))
