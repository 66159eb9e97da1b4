"""[18]: lots, answers, and whole ends that are told back."""

import copy
import itertools
import random
import unittest

from termlays.answers import answers, is_whole, lots, told_back
from termlays.ends import Ends, ends_of, least_ends_of
from termlays.errors import BadAnswers, NotWhole
from termlays.sheets import Sheet
from tests.samples import ANY_VALUES, drawn_chains, drawn_sheets, greatest, raised

NAMES = ["zz", "a", "b", "ab", "c", "abcdefgh"]


def lots_of(names):
    """All lots, each once, in their order."""
    told = [tuple(sorted(some)) for many in range(len(names) + 1) for some in itertools.combinations(names, many)]
    return sorted(told, key=lambda lot: (len(lot), lot))


def answers_of(chains, names):
    return {lot: greatest(chains, {name: int(name in lot) for name in names}) for lot in lots_of(names)}


def whole_chains(some):
    return [tuple((name, 144) for name in sorted(lot)) for lot in some]


def drawn_whole(draw, names):
    """The chains of whole ends for the names, of which some may be in none."""
    return whole_chains([draw.sample(names, draw.randint(0, len(names))) for _ in range(draw.randint(1, 5))])


def split_free(seed, many):
    """Sheets without splits, with least 12 everywhere."""
    for sheet in drawn_sheets(seed, many, 6):
        lines = [(name, lay if lay[0] != "split" else ("beside", lay[1]), 12) for name, lay, _ in sheet.lines]
        yield Sheet(lines, quashed=sheet.quashed)


class Lots(unittest.TestCase):

    def test_by_hand(self):
        told = [
            ([], [()]), (["a"], [(), ("a",)]), (["b", "a"], [(), ("a",), ("b",), ("a", "b")]),
            (["b", "ab", "a"], [(), ("a",), ("ab",), ("b",), ("a", "ab"), ("a", "b"), ("ab", "b"), ("a", "ab", "b")]),
        ]
        for names, some in told:
            self.assertEqual([lots(names), lots(names=names)], [some, some])

    def test_none_to_six_names_in_any_order(self):
        draw = random.Random(130)
        for many in range(7):
            for _ in range(10):
                names = draw.sample(NAMES, many)
                held = list(names)
                self.assertEqual(lots(names), lots_of(names))
                self.assertEqual(len(lots(names)), 2 ** many)
                self.assertEqual(names, held)

    def test_new_each_time(self):
        lots(["a", "b"]).clear()
        self.assertEqual(lots(["a", "b"]), [(), ("a",), ("b",), ("a", "b")])
        self.assertIs(type(lots([])), list)


class Answers(unittest.TestCase):

    def test_by_hand(self):
        late = Ends([(("", 5), ("a", 2)), (("b", 4),)])
        told = {(): 5, ("a",): 7, ("b",): 5, ("a", "b"): 7}
        self.assertEqual(answers(late, ["a", "b"]), told)
        self.assertEqual(answers(names=["b", "a"], ends=late), told)
        self.assertEqual(answers(Ends([()]), []), {(): 0})
        self.assertEqual(answers(Ends([(("", 3),)]), ["c"]), {(): 3, ("c",): 3})

    def test_drawn_ones(self):
        draw = random.Random(131)
        for many in range(7):
            for _ in range(25):
                names = draw.sample(NAMES, many)
                chains = drawn_chains(draw, names + draw.choice([[], [""]]), draw.choice([2, 144, 10 ** 60]), 5)
                held = list(names)
                told = answers(Ends(chains), names)
                self.assertEqual(told, answers_of(chains, names))
                self.assertEqual([type(told), names], [dict, held])
                told.clear()
                self.assertEqual(answers(Ends(chains), names), answers_of(chains, names))

    def test_names_beyond_those_of_the_ends(self):
        self.assertEqual(answers(Ends([(("b", 7),)]), ["c", "b"]), {(): 0, ("b",): 7, ("c",): 0, ("b", "c"): 7})


class IsWhole(unittest.TestCase):

    def test_by_hand(self):
        right = [[()], [(("a", 144),)], [(("a", 144), ("b", 144)), (("b", 144), ("c", 144))],
                 [(("a", 144),), (("a", 72),)], [(("a", 144),), (("b", 144),), (("a", 72), ("b", 72))]]
        wrong = [[(("a", 143),)], [(("a", 145),)], [(("a", 288),)], [(("", 144),)], [(("", 144), ("a", 144))],
                 [(("a", 144), ("b", 143))], [(("a", 144),), (("b", 72),)], [(("a", 144),), (("", 1),)],
                 [(("a", 144),), (("b", 144),), (("a", 72), ("b", 73))], [(("a", 1),)]]
        for chains in right:
            self.assertIs(is_whole(Ends(chains)), True)
        for chains in wrong:
            self.assertIs(is_whole(Ends(chains)), False)
        self.assertIs(is_whole(ends=Ends([()])), True)

    def test_sheets(self):
        for sheet in split_free(132, 80):
            self.assertIs(is_whole(ends_of(sheet)), True)
            self.assertIs(is_whole(least_ends_of(sheet)), True)
        counts = [0, 0]
        for sheet in drawn_sheets(133, 150, 6):
            for late in (ends_of(sheet), least_ends_of(sheet)):
                whole = all(name and parts == 144 for chain in late.chains for name, parts in chain)
                self.assertIs(is_whole(late), whole)
                counts[whole] += 1
        self.assertGreater(min(counts), 50)


class ToldBack(unittest.TestCase):

    def test_by_hand(self):
        told = [
            ([], {(): 0}, [()]), (["a"], {(): 0, ("a",): 0}, [()]), (["a"], {(): 0, ("a",): 144}, [(("a", 144),)]),
            (["b", "a"], {("a", "b"): 144, ("b",): 144, (): 0, ("a",): 144}, [(("a", 144),), (("b", 144),)]),
            (["a", "b"], {(): 0, ("a",): 144, ("b",): 144, ("a", "b"): 288}, [(("a", 144), ("b", 144))]),
            (["a", "b"], {(): 0, ("a",): 0, ("b",): 144, ("a", "b"): 144}, [(("b", 144),)]),
        ]
        for names, value, chains in told:
            held = [list(names), dict(value)]
            self.assertEqual(told_back(names, value).chains, chains)
            self.assertEqual(told_back(answers=value, names=names), Ends(chains))
            self.assertIs(type(told_back(names, value)), Ends)
            self.assertEqual([names, value], held)

    def test_whole_ends(self):
        draw = random.Random(134)
        for many in range(7):
            for _ in range(30):
                names = draw.sample(NAMES, many)
                late = Ends(drawn_whole(draw, names))
                self.assertEqual(told_back(names, answers(late, names)), late)
                self.assertEqual(told_back(sorted(names), answers_of(late.chains, names)), late)

    def test_many_lots_of_one_length(self):
        for many in range(7):
            late = Ends(whole_chains(itertools.combinations(sorted(NAMES), many)))
            self.assertEqual(told_back(NAMES, answers(late, NAMES)), late)

    def test_ends_of_sheets(self):
        for sheet in split_free(135, 60):
            self.assertEqual(told_back(sheet.names, answers(ends_of(sheet), sheet.names)), ends_of(sheet))

    def test_bad_answers(self):
        right = {(): 0, ("a",): 144, ("b",): 144, ("a", "b"): 144}
        less = {lot: right[lot] for lot in right if lot != ("a", "b")}
        wrong = [
            {}, less, {**less, ("b", "a"): 144}, {**less, "ab": 144}, {**less, ("a", "c"): 144}, {**right, ("c",): 0},
            {**right, ("b", "a"): 144}, {**right, "": 0}, {**right, "a": 144}, {**right, None: 0}, {**right, 0: 0},
            {**right, ("a", "a"): 144}, {**right, ("a",): -1}, {**right, (): -1}, {**right, (): False},
            {**right, ("a",): True}, {**right, ("b",): None}, {**right, ("b",): "144"}, {**right, ("b",): (144,)},
            {**right, ("b",): [144]}, list(right), tuple(right), [right], list(right.items()), "ab", 144,
            {lot[::-1]: number for lot, number in right.items()},
            {**less, ("a", ("b",)): 144}, {**right, ("a", "b", "c"): 144},
        ]
        for value in wrong + ANY_VALUES:
            held = copy.deepcopy(value)
            with self.subTest(value=value):
                for names in (["a", "b"], ["b", "a"]):
                    self.assertIs(raised(BadAnswers, told_back, names, value).value, value)
                    self.assertIs(raised(BadAnswers, told_back, answers=value, names=names).value, value)
                self.assertEqual(value, held)
        self.assertEqual(told_back(["a", "b"], right).chains, [(("a", 144),), (("b", 144),)])
        for value in ANY_VALUES:
            self.assertIs(raised(BadAnswers, told_back, [], value).value, value)

    def test_bad_answers_come_ahead_of_what_is_not_whole(self):
        for value in ({(): 7, ("a",): -1}, {(): 7}, {(): 7, ("a",): 144, ("b",): 0}):
            self.assertIs(raised(BadAnswers, told_back, ["a"], value).value, value)

    def test_not_whole_by_hand(self):
        told = [
            ([], {(): 1}, ()), (["a"], {(): 1, ("a",): 144}, ()), (["a"], {(): 144, ("a",): 288}, ()),
            (["a"], {(): 0, ("a",): 1}, ("a",)), (["a"], {(): 0, ("a",): 143}, ("a",)),
            (["a"], {(): 0, ("a",): 145}, ("a",)), (["a"], {(): 0, ("a",): 288}, ("a",)),
            (["b", "a"], {(): 0, ("a",): 144, ("b",): 1, ("a", "b"): 7}, ("b",)),
            (["b", "a"], {(): 0, ("a",): 2, ("b",): 1, ("a", "b"): 7}, ("a",)),
            (["b", "a"], {(): 0, ("a",): 144, ("b",): 144, ("a", "b"): 287}, ("a", "b")),
            (["b", "a"], {(): 0, ("a",): 144, ("b",): 144, ("a", "b"): 0}, ("a", "b")),
            (["b", "a"], {(): 0, ("a",): 0, ("b",): 0, ("a", "b"): 288}, ("a",)),
            (["a"], {(): 5, ("a",): 10 ** 60}, ()), (["a"], {(): 0, ("a",): 10 ** 60}, ("a",)),
        ]
        for names, value, lot in told:
            held = dict(value)
            with self.subTest(value=value):
                self.assertEqual(raised(NotWhole, told_back, names, value).lot, lot)
                self.assertEqual(raised(NotWhole, told_back, answers=value, names=names).lot, lot)
                self.assertEqual(value, held)

    def first_wrong(self, names, value):
        """The first lot that goes otherwise, by the words of the document; None if there is none."""
        full = [lot for lot in lots_of(names) if value[lot] == 144 * len(lot)]
        top = [lot for lot in full if not any(set(lot) < set(other) for other in full)]
        for lot in lots_of(names):
            if value[()] or value[lot] != max(144 * len(set(lot) & set(other)) for other in top):
                return lot
        return None

    def test_answers_with_a_little_changed(self):
        draw = random.Random(136)
        counts = [0, 0]
        for _ in range(600):
            names = draw.sample(NAMES, draw.randint(0, 6))
            value = answers_of(drawn_whole(draw, names), names)
            for _ in range(draw.randint(1, 3)):
                lot = draw.choice(sorted(value))
                value[lot] = max(0, draw.choice([value[lot] + 144, value[lot] - 144, 144 * len(lot), value[lot] + 1]))
            lot = self.first_wrong(names, value)
            if lot is None:
                self.assertEqual(answers(told_back(names, value), names), value)
            else:
                self.assertEqual(raised(NotWhole, told_back, names, value).lot, lot)
            counts[lot is None] += 1
        self.assertGreater(min(counts), 50)

    def test_ends_that_are_not_whole_are_told_back_otherwise_or_not_at_all(self):
        draw = random.Random(137)
        for _ in range(100):
            names = draw.sample(NAMES, draw.randint(1, 4))
            late = Ends(drawn_chains(draw, names, 2, 3)) * 72
            value = answers(late, names)
            lot = self.first_wrong(names, value)
            if lot is None:
                self.assertEqual(answers(told_back(names, value), names), value)
                self.assertIs(is_whole(told_back(names, value)), True)
            else:
                self.assertEqual(raised(NotWhole, told_back, names, value).lot, lot)
