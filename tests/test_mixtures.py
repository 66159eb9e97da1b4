"""[10]: mixtures of chains."""

import copy
import itertools
import random
import unittest

from termlays.ends import is_mixture, mixture
from tests.samples import ANY_VALUES, drawn_chains, summed

HALVES = (("a", 1), ("b", 1))
PAIR = [(("a", 2),), (("b", 2),)]


def mixes(chain, chains, weights):
    """Whether the chain lies within the mixture, name by name."""
    for name, parts in chain:
        if sum(weight * dict(other).get(name, 0) for weight, other in zip(weights, chains)) < parts * sum(weights):
            return False
    return True


def days_of_two(most):
    """Days of two names, among which are some at which a chain is ahead of all others, if there are any.

    For parts up to the most, the days at which it is ahead lie between two rays of days up to the most. The sum of
    both lies between them.
    """
    return itertools.product(range(2 * most + 1), repeat=2)


class Mixtures(unittest.TestCase):

    def check(self, chain, chains, there):
        """There are weights, or there are none; nothing is changed, and the same is told again."""
        held = list(chains)
        told = mixture(chain, chains)
        if there:
            self.assertIs(type(told), tuple)
            self.assertEqual(len(told), len(chains))
            self.assertTrue(all(type(weight) is int and weight >= 0 for weight in told) and sum(told) > 0)
            self.assertTrue(mixes(chain, chains, told), (chain, chains, told))
            self.assertIs(is_mixture(chain, chains, told), True)
        else:
            self.assertIsNone(told, (chain, chains))
        self.assertEqual(chains, held)
        self.assertEqual(mixture(chain=chain, chains=list(held)), told)

    def test_by_hand(self):
        told = [
            (HALVES, PAIR, True), ((("a", 2),), PAIR, True), ((("a", 1),), PAIR, True), ((("a", 3),), PAIR, False),
            ((("a", 1), ("b", 2)), PAIR, False), ((("a", 1), ("b", 1), ("c", 1)), PAIR, False),
            ((("c", 1),), PAIR, False),
            ((("a", 1), ("b", 1)), [(("a", 3), ("b", 1)), (("c", 4),)], True), ((("", 1),), PAIR, False),
            ((("", 1), ("a", 1)), [(("", 2),), (("a", 2),)], True),
            ((("", 2), ("a", 1)), [(("", 2),), (("a", 2),)], False),
            ((("a", 1), ("b", 1)), [(("a", 2),)], False), ((("a", 1), ("b", 1)), [HALVES], True),
            ((("a", 1),), [()], False), ((("a", 3), ("b", 1)), [(("a", 4),), (("b", 4),)], True),
        ]
        for chain, chains, there in told:
            with self.subTest(chain=chain, chains=chains):
                self.check(chain, chains, there)

    def test_no_chains(self):
        for chain in ((), (("a", 1),), (("", 1),)):
            self.check(chain, [], False)

    def test_the_empty_chain_lies_within_each_mixture(self):
        for chains in ([()], PAIR, [(("", 1),), ()], [HALVES] * 5):
            self.check((), chains, True)

    def test_equal_chains_may_stand_twice(self):
        self.check(HALVES, PAIR + PAIR, True)
        self.check((("a", 1), ("b", 2)), PAIR + PAIR, False)
        self.check(HALVES, [PAIR[0]] * 3, False)

    def test_all_are_needed(self):
        names = ["", "a", "b", "c", "d", "e", "f", "g", "h"]
        for many in range(1, 10):
            alone = [((name, many * 7 ** 50),) for name in names[:many]]
            chain = tuple((name, 7 ** 50) for name in names[:many])
            others = [((name, 7 ** 50),) for name in names] * 3
            self.check(chain, alone, True)
            self.check(chain, others + alone + others, True)
            for at in range(many):
                self.check(chain, alone[:at] + others[:many > 1] + alone[at + 1:], False)
                self.check(chain[:at] + ((names[at], 7 ** 50 + 1),) + chain[at + 1:], alone, False)

    def test_at_the_edge_of_many_digits(self):
        for left, right in ((1, 1), (3, 4), (10 ** 60 + 7, 10 ** 59), (1, 10 ** 60)):
            a, b = 10 ** 60 - 1, 7 ** 60
            chains = [(("a", (left + right) * a),), (("b", (left + right) * b),)]
            self.check((("a", left * a), ("b", right * b)), chains, True)
            self.check((("a", left * a + 1), ("b", right * b)), chains, False)
            self.check((("a", left * a), ("b", right * b + 1)), chains, False)
            self.check((("a", left * a), ("b", right * b), ("c", 1)), chains, False)

    def test_two_names_either_weights_or_lengths(self):
        draw = random.Random(20)
        counts = [0, 0]
        for names in (["a", "b"], ["", "b"]):
            for _ in range(400):
                chain, *chains = drawn_chains(draw, names, 5, draw.randint(2, 6))
                days = [dict(zip(names, pair)) for pair in days_of_two(5)]
                ahead = [day for day in days if all(summed(chain, day) > summed(other, day) for other in chains)]
                self.check(chain, chains, not ahead)
                counts[bool(ahead)] += 1
        self.assertGreater(min(counts), 100)

    def test_made_of_weights(self):
        draw = random.Random(21)
        for _ in range(100):
            names = ["", "a", "b", "c", "d", "e", "f", "g", "h"][draw.randint(0, 1):draw.randint(2, 9)]
            most = draw.choice([3, 144, 10 ** 30, 10 ** 60])
            chains = drawn_chains(draw, names, most, draw.randint(1, 40))
            weights = [draw.choice([0, 0, draw.randint(0, 9)]) for _ in chains]
            weights[0] += 1
            sums = {name: 0 for name in names}
            for weight, other in zip(weights, chains):
                for name, parts in other:
                    sums[name] += weight * parts
            chain = tuple((name, sums[name] // sum(weights)) for name in names if sums[name] >= sum(weights))
            self.check(chain, chains, True)

    def test_greatest_at_some_lengths(self):
        draw = random.Random(22)
        for _ in range(100):
            names = ["", "a", "b", "c", "d", "e", "f", "g", "h"][draw.randint(0, 1):draw.randint(2, 9)]
            chains = drawn_chains(draw, names, draw.choice([3, 144, 10 ** 30, 10 ** 60]), draw.randint(2, 40))
            lengths = {name: draw.randint(0, 9) for name in names}
            chain = max(chains, key=lambda one: summed(one, lengths))
            less = [other for other in chains if summed(other, lengths) < summed(chain, lengths)]
            self.check(chain, less, False)

    def test_names_that_the_chain_lacks_do_not_count(self):
        self.check(HALVES, [(("a", 2), ("c", 1)), (("b", 2), ("d", 9))], True)
        self.check(HALVES, [(("a", 1), ("c", 100)), (("b", 2), ("d", 900))], False)


class IsMixture(unittest.TestCase):

    def test_right_ones(self):
        told = [
            (HALVES, PAIR, (1, 1)), (HALVES, PAIR, (7, 7)), (HALVES, PAIR, (10 ** 60, 10 ** 60)),
            ((("a", 1),), PAIR, (3, 1)), ((("a", 1),), PAIR, (1, 0)), (HALVES, PAIR + [HALVES], (2, 2, 9)),
            (HALVES, PAIR + [HALVES], (0, 0, 1)),
            ((), PAIR, (0, 5)), ((), [()], (1,)), ((("", 1),), [(("", 3),), ()], (1, 2)),
        ]
        for chain, chains, value in told:
            with self.subTest(chain=chain, chains=chains, value=value):
                self.assertIs(is_mixture(chain, chains, value), True)
                self.assertIs(is_mixture(value=value, chains=chains, chain=chain), True)

    def test_near_ones(self):
        wrong = [(1, 0), (0, 1), (1, 2), (2, 1), (0, 0), (-1, -1), (1, -1), (1,), (1, 1, 1), (1, 1, 0), (), [1, 1],
                 (True, True), (True, 1), (1, None), ("1", "1"), ((1, 1),), (1, (1,)), 1, "11", {0: 1, 1: 1}, None,
                 (10 ** 60, 10 ** 60 - 1)]
        for value in wrong + [value for value in ANY_VALUES if value != (1, 1)]:
            held = copy.deepcopy(value)
            with self.subTest(value=value):
                self.assertIs(is_mixture(HALVES, PAIR, value), False)
                self.assertIs(is_mixture(chain=HALVES, chains=PAIR, value=value), False)
                self.assertEqual(value, held)

    def test_weights_below_none_are_none_whatever_they_come_to(self):
        for value in [(2, -1), (-1, 2), (-1, -1), (10 ** 60, -1)]:
            self.assertIs(is_mixture(HALVES, [HALVES, HALVES], value), False)
            self.assertIs(is_mixture((), [HALVES, HALVES], value), False)
        self.assertIs(is_mixture(HALVES, [HALVES, HALVES], (0, 1)), True)

    def test_near_ones_of_the_empty_chain(self):
        for value in [(), (0,), (-1,), (True,), [1], 1, None, (1, 1)]:
            self.assertIs(is_mixture((), [()], value), False)
        for value in [(), (1,), (0,), None, []]:
            self.assertIs(is_mixture((), [], value), False)
            self.assertIs(is_mixture(HALVES, [], value), False)

    def test_against_own_sums(self):
        draw = random.Random(23)
        counts = [0, 0]
        for _ in range(2000):
            chain, *chains = drawn_chains(draw, ["", "a", "b"], 3, draw.randint(2, 5))
            value = tuple(draw.randint(0, 2) for _ in chains)
            if sum(value):
                self.assertIs(is_mixture(chain, chains, value), mixes(chain, chains, value))
                counts[mixes(chain, chains, value)] += 1
        self.assertGreater(min(counts), 300)
