"""[8], [10], [11]: ends, told by chains, put together, and those of sheets."""

import copy
import itertools
import random
import unittest

from termlays.chains import chains_of, least_chains_of
from termlays.days import end, least_end
from termlays.ends import Ends, ends_of, least_ends_of, mixture
from termlays.errors import BadChains, BadLengths
from termlays.games import settled
from termlays.sheets import Sheet
from tests.samples import (
    ANY_VALUES, BIG, drawn_chains, drawn_lengths, drawn_sheets, greatest, raised, small_sheets, summed,
)
from tests.test_mixtures import days_of_two, mixes

A, B, HALVES = (("a", 2),), (("b", 2),), (("a", 1), ("b", 1))
NAMES = ["", "a", "b", "c", "d", "e", "f", "g", "h"]


def sums_of(ones, others):
    """All sums of a chain of the ones and a chain of the others."""
    sums = []
    for one, other in itertools.product(ones, others):
        names = sorted({name for name, _ in one + other})
        sums.append(tuple((name, dict(one).get(name, 0) + dict(other).get(name, 0)) for name in names))
    return sums


def times_of(chains, times):
    return [tuple((name, parts * times) for name, parts in chain) if times else () for chain in chains]


def without(chains, name):
    return [tuple(pair for pair in chain if pair[0] != name) for chain in chains]


def is_ahead(chain, chains, lengths):
    """Whether at the lengths the chain comes to more than all others that are unlike it."""
    return all(summed(chain, lengths) > summed(other, lengths) for other in chains if other != chain)


def parts_ahead(chain, others):
    return [[dict(other).get(name, 0) - parts for other in others] for name, parts in chain]


def full_chains(draw, many):
    return [tuple((name, draw.randint(1, 10 ** 60)) for name in NAMES) for _ in range(many)]


class Checks(unittest.TestCase):

    def check_unbeaten(self, chains, told):
        """Those that are told are unbeaten, and all others lie within a mixture of them, by the test's own sums.

        Of many that are told, some are looked at.
        """
        self.assertEqual(told, sorted(set(told)))
        self.assertEqual([chain for chain in told if chain not in chains], [])
        for chain in chains:
            if chain not in told:
                self.assertTrue(mixes(chain, told, mixture(chain, told)), (chain, told))
        for chain in told[::1 + len(told) // 20]:
            others = [other for other in chains if other != chain]
            if others and chain:
                # Days, one for each name of the chain, at which it is ahead of all others.
                days = settled(parts_ahead(chain, others))[2]
                lengths = {"": 0, **{name: 0 for other in others for name, _ in other}}
                lengths.update({name: number for (name, _), number in zip(chain, days)})
                self.assertTrue(is_ahead(chain, others, lengths))
            else:
                self.assertEqual(others, [])


class Made(Checks):

    def test_by_hand(self):
        told = [
            ([()], [()]), ([(), ()], [()]), ([A], [A]), ([B, A], [A, B]), ([A, (), B], [A, B]), ([A, B, A, B], [A, B]),
            ([A, B, HALVES], [A, B]), ([HALVES, B, A], [A, B]), ([HALVES, A], [HALVES, A]),
            ([HALVES, HALVES], [HALVES]),
            ([A, (("a", 3),)], [(("a", 3),)]), ([A, B, (("a", 1), ("b", 2))], [(("a", 1), ("b", 2)), A]),
            ([(("", 2),), A, (("", 1), ("a", 1))], [(("", 2),), A]), ([(("", 2),), (("", 1), ("a", 1))], None),
            ([(("a", 2), ("b", 2)), (("a", 3),), (("b", 3),)], [(("a", 2), ("b", 2)), (("a", 3),), (("b", 3),)]),
            ([(("a", 2), ("b", 2)), (("a", 4),), (("b", 4),)], [(("a", 4),), (("b", 4),)]),
            ([(("a", 2), ("b", 2)), (("a", 4),), (("b", 4),), (("a", 2), ("b", 1), ("c", 1))],
             [(("a", 2), ("b", 1), ("c", 1)), (("a", 4),), (("b", 4),)]),
            ([(("a", 1), ("b", 1), ("c", 1)), (("a", 3),), (("b", 3),), (("c", 3),)],
             [(("a", 3),), (("b", 3),), (("c", 3),)]),
        ]
        for chains, unbeaten in told:
            unbeaten = sorted(chains) if unbeaten is None else unbeaten
            for given in (chains, tuple(chains), chains[::-1], chains + chains):
                with self.subTest(given=given):
                    self.assertEqual(Ends(given).chains, unbeaten)
                    self.assertEqual(Ends(chains=given).chains, unbeaten)
            self.check_unbeaten(chains, unbeaten)

    def test_names(self):
        told = [([()], []), ([A], ["a"]), ([B, A, ()], ["a", "b"]), ([(("", 3),)], [""]),
                ([(("", 1), ("zz", 1)), A], ["", "a", "zz"]),
                ([(("b", 1), ("c", 1)), (("a", 5), ("b", 1))], ["a", "b", "c"])]
        for chains, names in told:
            self.assertEqual(Ends(chains).names, names)

    def test_bad_chains(self):
        wrong = [[], (), [A, None], [A, []], [A, [("a", 1)]], [A, 1], (A, "a"), [A, (("a", 0),)], [A, (("a", True),)],
                 [(("b", 1), ("a", 1))], [(("a", 1), ("a", 1))], [A, (("A", 1),)], [("a", 1)], ("a", 1), A, HALVES,
                 [[A]], [(A,)], {A: 1}, {"a": 1}, "ab", "", None, 0, 1, Ends([A]), [Ends([A])], [Sheet([])], (None,),
                 [A, B, (("a", -1),)], [(["a", 1],)], [{}], [""]]
        right = [[(("a", 1),)], [()]]
        for value in wrong + [value for value in ANY_VALUES if value not in right]:
            held = copy.deepcopy(value)
            with self.subTest(value=value):
                self.assertIs(raised(BadChains, Ends, value).value, value)
                self.assertIs(raised(BadChains, Ends, chains=value).value, value)
                self.assertEqual(value, held)

    def test_copied_and_new_each_time(self):
        chains = [B, HALVES, A, B]
        late = Ends(chains)
        self.assertEqual(chains, [B, HALVES, A, B])
        chains.clear()
        late.chains.append(())
        late.names.clear()
        self.assertEqual([late.chains, late.names], [[A, B], ["a", "b"]])
        self.assertIs(type(late.chains), list)
        self.assertIs(type(late.names), list)
        self.assertIsNot(late.chains, late.chains)
        self.assertIsNot(late.names, late.names)

    def test_within_a_mixture_of_others_but_within_none(self):
        draw = random.Random(30)
        for _ in range(30):
            names = NAMES[:draw.randint(2, 9)]
            top = [((name, len(names) * 12),) for name in names]
            beaten = [tuple((name, 12 - draw.randint(0, 1)) for name in names) for _ in range(5)]
            self.assertEqual(Ends(beaten + top).chains, top)
            self.assertNotEqual(Ends(beaten + top[1:]).chains, top[1:])

    def test_two_names_against_lengths(self):
        draw = random.Random(31)
        for names in (["a", "b"], ["", "a"]):
            days = [dict(zip(names, pair)) for pair in days_of_two(5)]
            for _ in range(150):
                chains = drawn_chains(draw, names, 5, draw.randint(1, 6))
                ahead = [one for one in sorted(set(chains)) if any(is_ahead(one, chains, day) for day in days)]
                self.assertEqual(Ends(chains).chains, ahead)

    def test_drawn_ones(self):
        draw = random.Random(32)
        for _ in range(60):
            names = NAMES[draw.randint(0, 1):draw.randint(2, 9)]
            chains = drawn_chains(draw, names, draw.choice([1, 2, 5, 144, 10 ** 60]), draw.randint(1, 40))
            late = Ends(chains)
            self.check_unbeaten(chains, late.chains)
            self.assertEqual(late.names, sorted({name for chain in late.chains for name, _ in chain}))
            lengths = drawn_lengths(draw, "abcdefgh")
            self.assertEqual(late.at(lengths), greatest(chains, lengths))

    def test_forty_chains_and_a_hundred(self):
        draw = random.Random(33)
        for many in (40, 100):
            for most in (144, 10 ** 60):
                chains = [tuple((name, draw.randint(1, most)) for name in NAMES[1:]) for _ in range(many)]
                late = Ends(chains)
                self.check_unbeaten(chains, late.chains)
                self.assertGreater(len(late.chains), many // 3)


class Equal(unittest.TestCase):

    def test_equal_ones(self):
        for chains in ([A, B], [B, A], (A, B, HALVES), [(), A, B], [A, A, B], [A, B, (("a", 1),)]):
            self.assertTrue(Ends(chains) == Ends([A, B]))
            self.assertFalse(Ends(chains) != Ends([A, B]))

    def test_unlike_ones(self):
        for chains in ([A], [B], [()], [HALVES], [A, HALVES], [A, (("b", 3),)], [A, (("c", 2),)], [A, B, (("", 2),)],
                       [A, B, (("a", 1), ("b", 2))]):
            self.assertFalse(Ends(chains) == Ends([A, B]))
            self.assertTrue(Ends(chains) != Ends([A, B]))

    def test_values_of_other_kinds(self):
        late = Ends([A])
        for value in [[A], (A,), A, late.chains, Sheet([]), Ends, *ANY_VALUES]:
            self.assertIs(late == value, False)
            self.assertIs(value == late, False)
            self.assertIs(late != value, True)

    def test_without_the_empty_string_equal_just_if_the_same_at_all_lengths(self):
        draw = random.Random(34)
        counts = [0, 0]
        for _ in range(400):
            one, other = [Ends(drawn_chains(draw, ["a", "b"], 2, draw.randint(1, 3))) for _ in range(2)]
            same = all(one.at({"a": a, "b": b}) == other.at({"a": a, "b": b}) for a, b in days_of_two(3))
            self.assertIs(one == other, same)
            counts[same] += 1
        self.assertGreater(min(counts), 20)


class At(unittest.TestCase):

    def test_by_hand(self):
        late = Ends([A, B, HALVES, (("", 5),)])
        self.assertEqual([late.at({"a": a, "b": b}) for a, b in ((0, 0), (2, 1), (3, 5), (9, 8))], [5, 5, 10, 18])
        self.assertEqual(late.at(lengths={"b": BIG, "a": 1, "z": 10 * BIG}), 2 * BIG)
        self.assertEqual([Ends([()]).at({}), Ends([()]).at({"a": 7}), Ends([(("", 3),)]).at({"a": 7})], [0, 0, 3])

    def test_bad_lengths(self):
        late = Ends([A, B, HALVES])
        right = {"a": 1, "b": 2}
        wrong = [{}, {"a": 1}, {"b": 1}, {"a": 1, "c": 1}, {"a": -1, "b": 2}, {"a": 1, "b": -1}, {"a": True, "b": 2},
                 {"a": 1, "b": None}, {"a": "1", "b": 2}, {**right, "": 1}, {**right, "A": 1}, {**right, 1: 1},
                 {**right, ("a",): 1}, {**right, "c": -1}, {**right, "c": False}, [("a", 1), ("b", 2)], [right], "ab"]
        for value in wrong + ANY_VALUES:
            held = copy.deepcopy(value)
            with self.subTest(value=value):
                self.assertIs(raised(BadLengths, late.at, value).value, value)
                self.assertIs(raised(BadLengths, late.at, lengths=value).value, value)
                self.assertEqual(value, held)
        self.assertEqual(late.at(right), 4)

    def test_bad_lengths_of_ends_without_names(self):
        for late in (Ends([()]), Ends([(("", 3),)])):
            for value in (None, [], 0, "", {"a": -1}, {"": 1}, {"A": 1}):
                self.assertIs(raised(BadLengths, late.at, value).value, value)

    def test_a_name_may_lack_in_one_chain_but_not_in_all(self):
        late = Ends([A, (("b", 1), ("c", 1))])
        for name in "abc":
            lengths = {other: 1 for other in "abc" if other != name}
            self.assertIs(raised(BadLengths, late.at, lengths).value, lengths)

    def test_the_lengths_stay_and_their_order_has_no_meaning(self):
        lengths = {"b": 3, "z": 1, "a": 4}
        self.assertEqual([Ends([A, B]).at(lengths), Ends([A, B]).at({"a": 4, "b": 3})], [8, 8])
        self.assertEqual([lengths, list(lengths)], [{"b": 3, "z": 1, "a": 4}, ["b", "z", "a"]])


class Together(Checks):

    def drawn(self, draw):
        names = NAMES[draw.randint(0, 1):draw.randint(2, 9)]
        most = draw.choice([1, 2, 5, 144, 10 ** 60])
        return [drawn_chains(draw, names, most, draw.randint(1, 7)) for _ in range(2)]

    def check(self, late, chains, draw, told):
        """The ends are those told by the chains, unbeaten, equal, and at many lengths."""
        self.assertIs(type(late), Ends)
        self.check_unbeaten(chains, late.chains)
        self.assertEqual(late, Ends(chains))
        for _ in range(10):
            lengths = drawn_lengths(draw, "abcdefgh")
            self.assertEqual(late.at(lengths), greatest(chains, lengths))
            self.assertEqual(late.at(lengths), told(lengths))

    def test_by_hand(self):
        one, other = Ends([A, B]), Ends([(("", 7),), (("a", 1), ("c", 3))])
        self.assertEqual((one + other).chains, [
            (("", 7), ("a", 2)), (("", 7), ("b", 2)), (("a", 1), ("b", 2), ("c", 3)), (("a", 3), ("c", 3)),
        ])
        self.assertEqual((one | other).chains, [(("", 7),), (("a", 1), ("c", 3)), (("a", 2),), (("b", 2),)])
        self.assertEqual((one * 5).chains, [(("a", 10),), (("b", 10),)])
        self.assertEqual((other * 10 ** 30).chains, [(("", 7 * 10 ** 30),), (("a", 10 ** 30), ("c", 3 * 10 ** 30))])
        self.assertEqual(other.without("c").chains, [(("", 7),), (("a", 1),)])
        self.assertEqual(other.without("").chains, [(("a", 1), ("c", 3))])

    def test_what_is_beaten_only_when_put_together(self):
        one, other = Ends([A]), Ends([B])
        self.assertEqual((one | other | Ends([HALVES])).chains, [A, B])
        self.assertEqual((Ends([A, B]) + Ends([A, B])).chains, [(("a", 4),), (("b", 4),)])
        self.assertEqual(Ends([HALVES, (("a", 1), ("c", 9))]).without("c").chains, [HALVES])
        self.assertEqual(Ends([(("a", 1), ("c", 1)), A]).without("c").chains, [A])

    def test_one_behind_the_other(self):
        draw = random.Random(40)
        for _ in range(60):
            ones, others = self.drawn(draw)
            one, other = Ends(ones), Ends(others)
            self.check(one + other, sums_of(ones, others), draw,
                       lambda days: greatest(ones, days) + greatest(others, days))
            self.assertEqual(other + one, one + other)
            self.assertEqual([one, other], [Ends(ones), Ends(others)])

    def test_the_later_of_both(self):
        draw = random.Random(41)
        for _ in range(60):
            ones, others = self.drawn(draw)
            one, other = Ends(ones), Ends(others)
            self.check(one | other, ones + others, draw, lambda days: max(greatest(ones, days), greatest(others, days)))
            self.assertEqual(other | one, one | other)
            self.assertEqual([one, other], [Ends(ones), Ends(others)])

    def test_so_many_times(self):
        draw = random.Random(42)
        for times in (0, 1, 2, 3, 144, 10 ** 30, 10 ** 60):
            for _ in range(12):
                ones, _ = self.drawn(draw)
                late = Ends(ones)
                self.check(late * times, times_of(ones, times), draw, lambda days: times * greatest(ones, days))
                self.assertEqual(late, Ends(ones))
                self.assertEqual([late * 1, late * 2, late * 3], [late, late + late, late + late + late])

    def test_none_times(self):
        for chains in ([A, B], [()], [(("", 5),)]):
            self.assertEqual((Ends(chains) * 0).chains, [()])
            self.assertEqual((Ends(chains) * 0).names, [])
            self.assertEqual((Ends(chains) * 0).at({}), 0)
            self.assertEqual(Ends(chains) * 0 + Ends([A]), Ends([A]))

    def test_without_a_name(self):
        draw = random.Random(43)
        for _ in range(60):
            ones, _ = self.drawn(draw)
            late = Ends(ones)
            for name in ["", "a", "b", "h"]:
                less = late.without(name)
                self.assertNotIn(name, less.names)
                chains = without(ones, name)
                self.check(less, chains, draw, lambda days: greatest(ones, {"": 1, **days, name: 0}))
                self.assertEqual(late.without(name=name), less)
            self.assertEqual(late, Ends(ones))

    def test_without_a_name_that_is_not_there(self):
        late = Ends([A, B])
        for name in ("c", "", "ab", "abcdefgh"):
            self.assertEqual(late.without(name), late)
        self.assertEqual(Ends([()]).without("a"), Ends([()]))
        self.assertEqual(Ends([A]).without("a"), Ends([()]))
        self.assertEqual(Ends([(("", 4),)]).without(""), Ends([()]))

    def test_with_itself(self):
        late = Ends([A, B, (("", 1), ("a", 1), ("b", 1))])
        self.assertEqual([late | late, late + late, late + Ends([()]), late | Ends([()])], [late, late * 2, late, late])
        self.assertEqual(late.chains, [(("", 1), ("a", 1), ("b", 1)), A, B])

    def test_equal_ends_are_put_together_equally(self):
        one, other = Ends([A, B]), Ends([B, HALVES, A, ()])
        last = Ends([(("a", 3), ("c", 1))])
        self.assertEqual(
            [one + last, last + one, one | last, one * 4, one.without("a")],
            [other + last, last + other, other | last, other * 4, other.without("a")],
        )

    def test_a_hundred_chains(self):
        draw = random.Random(44)
        ones, others = [full_chains(draw, 10) for _ in range(2)]
        self.check(Ends(ones) + Ends(others), sums_of(ones, others), draw,
                   lambda days: greatest(ones, days) + greatest(others, days))
        ones, others = [full_chains(draw, 50) for _ in range(2)]
        self.check(Ends(ones) | Ends(others), ones + others, draw,
                   lambda days: max(greatest(ones, days), greatest(others, days)))


class OfSheets(unittest.TestCase):

    def check(self, sheet, draw):
        late, least = ends_of(sheet), least_ends_of(sheet)
        self.assertEqual([type(late), type(least)], [Ends, Ends])
        self.assertEqual(late.chains, chains_of(sheet))
        self.assertEqual(least, Ends(least_chains_of(sheet)))
        self.assertEqual([late, least], [ends_of(sheet=sheet), least_ends_of(sheet=sheet)])
        for _ in range(4):
            lengths = drawn_lengths(draw, sheet.names + ["z"])
            self.assertEqual(late.at(lengths), end(sheet, lengths))
            self.assertEqual(least.at(lengths), least_end(sheet, lengths))

    def test_small_sheets(self):
        draw = random.Random(50)
        for sheet in small_sheets():
            self.check(sheet, draw)

    def test_drawn_sheets(self):
        draw = random.Random(51)
        for sheet in drawn_sheets(52, 150, 8):
            self.check(sheet, draw)

    def test_no_lines(self):
        self.assertEqual([ends_of(Sheet([])), least_ends_of(Sheet([]))], [Ends([()]), Ends([()])])

    def test_by_hand(self):
        sheet = Sheet([("b", ("now",), 12), ("c", ("split", "b", 6), 1), ("d", ("beside", "c"), 0)])
        self.assertEqual(ends_of(sheet).chains, [(("b", 144), ("c", 72)), (("c", 144),), (("d", 144),)])
        self.assertEqual(least_ends_of(sheet).chains, [(("b", 144), ("c", 6)), (("c", 12),)])

    def test_laid_otherwise_and_end_together(self):
        now, behind = ("a", ("now",), 12), ("b", ("behind", ("a",)), 12)
        equal = [
            ([now, behind, ("c", ("behind", ("a", "b")), 12)], [now, behind, ("c", ("behind", ("b",)), 12)]),
            ([now, behind, ("c", ("behind", ("b", "a")), 12)], [now, behind, ("c", ("behind", ("b",)), 3)]),
            ([now, ("b", ("now",), 12)], [("b", ("now",), 12), ("a", ("beside", "b"), 12)]),
            ([now, behind], [("b", ("now",), 12), ("a", ("behind", ("b",)), 12)]),
            ([now, behind, ("c", ("beside", "b"), 12)], [now, behind, ("c", ("behind", ("a",)), 12)]),
        ]
        for one, other in equal:
            self.assertEqual(ends_of(Sheet(one)), ends_of(Sheet(other)))
        unlike = [
            ([now, behind], [now, ("b", ("now",), 12)]), ([now, behind], [now, ("b", ("split", "a", 6), 12)]),
            ([now, ("b", ("split", "a", 5), 12)], [now, ("b", ("split", "a", 6), 12)]), ([now, behind], [now]),
        ]
        for one, other in unlike:
            self.assertNotEqual(ends_of(Sheet(one)), ends_of(Sheet(other)))

    def test_quashed_is_without_the_name(self):
        for sheet in drawn_sheets(53, 80, 7):
            for name in sheet.names:
                if name not in sheet.quashed:
                    self.assertEqual(ends_of(sheet.quash(name)), ends_of(sheet).without(name))
                    self.assertEqual(least_ends_of(sheet.quash(name)), least_ends_of(sheet).without(name))
