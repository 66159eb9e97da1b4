"""Values that several tests use."""

import itertools
import random

from termlays.ends import Ends, ends_of, least_ends_of
from termlays.sheets import Sheet

# The greatest number of days that callers hand in.
BIG = 10 ** 30 - 1

# Values of every kind that callers may hand in where the document says "any value".
ANY_VALUES = [
    None, True, False, 0, 1, -1, 12, 13, 10 ** 60, "", "a", "now", "A", "a b", "nine letters", "\n", "\t~",
    (), [], {}, ("a",), ["a"], {"a": 1}, ("now",), ["now"], ("a", ("now",), 12), ["a", ["now"], 12],
    [("a", ("now",), 12)], {("a",): ["b"]}, (((), [None]), {"a": [{}]}), [[[[[[[[[[]]]]]]]]]], Sheet([]),
    (("a", 1),), [("a", 1)], [(("a", 1),)], [()], (1,), (1, 1), [1, 1], [[1]], [[1, 0], [0, 1]], ((1,), (1,)),
    ((1, 1), (1,), (1,)), ((1, 2), (1, 1), (1, 1)), Ends([()]), [Ends([(("a", 1),)])],
]

# One term of each kind of lay, with least and share at their edges.
MIXED = [
    ("a", ("now",), 12),
    ("b", ("behind", ("a",)), 8),
    ("c", ("split", "a", 6), 12),
    ("d", ("beside", "b"), 0),
    ("e", ("behind", ("d", "c")), 1),
    ("f", ("split", "e", 11), 7),
    ("g", ("split", "a", 1), 11),
]


def any_values_but(*kinds):
    """The values of every kind but those that are instances of the kinds."""
    return [value for value in ANY_VALUES if not isinstance(value, kinds)]


def raised(kind, call, *given, **named):
    """The error of just this kind that the call raises."""
    try:
        call(*given, **named)
    except kind as error:
        if type(error) is not kind:
            raise AssertionError(f"{type(error).__name__} in the place of {kind.__name__}") from error
        return error
    raise AssertionError(f"no {kind.__name__}")


def small_sheets():
    """Sheets of up to three lines with each kind of lay, and some leasts and quashed terms."""
    second = [("now",), ("behind", ("a",)), ("beside", "a"), ("split", "a", 1), ("split", "a", 7), ("split", "a", 11)]
    third = [("now",), ("behind", ("a",)), ("behind", ("b",)), ("behind", ("a", "b")), ("behind", ("b", "a"))]
    third += [("beside", "a"), ("beside", "b"), ("split", "a", 5), ("split", "b", 1), ("split", "b", 11)]
    for lay, other in itertools.product(second, third):
        for leasts in ((12, 12, 12), (0, 12, 1), (5, 0, 11)):
            lines = [("a", ("now",), leasts[0]), ("b", lay, leasts[1]), ("c", other, leasts[2])]
            for many in range(4):
                for quashed in ([], ["a"], ["b"], ["c"], ["a", "b", "c"]):
                    if all(name in "abc"[:many] for name in quashed):
                        yield Sheet(lines[:many], quashed=quashed)


def drawn_sheets(seed, many, most):
    """So many sheets of up to so many lines, drawn, but always the same ones for a seed."""
    draw = random.Random(seed)
    for _ in range(many):
        lines = []
        for name in "abcdefghijkl"[:draw.randint(1, most)]:
            lines.append((name, drawn_lay(draw, [line[0] for line in lines]), draw.choice([0, 1, 5, 8, 11, 12, 12])))
        yield Sheet(lines, quashed=[line[0] for line in lines if draw.random() < 0.15])


def drawn_lay(draw, names):
    lays = [("now",)]
    if names:
        lays.append(("behind", tuple(draw.sample(names, draw.randint(1, len(names))))))
        lays.append(("beside", draw.choice(names)))
        lays += 2 * [("split", draw.choice(names), draw.randint(1, 11))]
    return draw.choice(lays)


def drawn_chains(draw, names, most, many):
    """So many chains with parts up to the most, in which each name may lack."""
    chains = []
    for _ in range(many):
        parts = [(name, draw.randint(0, most)) for name in sorted(names)]
        chains.append(tuple((name, number) for name, number in parts if number and draw.random() < 0.8))
    return chains


def drawn_lengths(draw, names):
    """Lengths with all of the names, few days or many."""
    most = draw.choice([1, 3, 12, 500, BIG])
    return {name: draw.choice([0, 1, draw.randint(0, most)]) for name in names}


def summed(chain, lengths):
    """The amount of a chain, by the words of the document; the empty string has one day if the lengths lack it."""
    total = 0
    for name, parts in chain:
        total += parts * (1 if name == "" and "" not in lengths else lengths[name])
    return total


def greatest(chains, lengths):
    """The greatest amount of the chains."""
    return max(summed(chain, lengths) for chain in chains)


def near_chains(draw, chains):
    """The chains with a little changed: a part more or less, a pair or a chain left out, a mean of two put in."""
    chains = [dict(chain) for chain in chains]
    at, way = draw.randrange(len(chains)), draw.randint(0, 4)
    name = draw.choice(sorted(chains[at]) + ["a"])
    if way < 2:
        chains[at][name] = max(0, chains[at].get(name, 0) + draw.choice([-1, 1]))
    elif way == 2:
        chains[at].pop(name, None)
    elif way == 3 and len(chains) > 1:
        chains.pop(at)
    else:
        other = draw.choice(chains)
        both = sorted({*chains[at], *other})
        chains.append({name: (chains[at].get(name, 0) + other.get(name, 0)) // 2 for name in both})
    return [tuple(sorted((name, parts) for name, parts in chain.items() if parts)) for chain in chains]


def drawn_pairs(seed, many, names=("", "a", "b", "c", "d", "e")):
    """So many pairs of ends, drawn: of sheets, told by hand, put together, often near one another."""
    draw = random.Random(seed)
    sheets = list(drawn_sheets(seed, 2 * many, 5))
    for number in range(many):
        one, other = [draw.choice([ends_of, least_ends_of])(sheet) for sheet in sheets[2 * number:2 * number + 2]]
        few = names[draw.randint(0, 1):draw.randint(2, len(names))]
        hand = Ends(drawn_chains(draw, few, draw.choice([1, 2, 3, 144, 10 ** 60]), draw.randint(1, 6)))
        told = [one, other, hand, hand + one, hand | one, hand * 2, one.without("a"), Ends([()])]
        late = draw.choice(told)
        pair = [late, draw.choice([draw.choice(told), Ends(near_chains(draw, late.chains)), Ends(late.chains)])]
        yield draw.sample(pair, 2)


def are_weights(value, many):
    """Whether any value is weights, one for each of so many things, by the words of the document."""
    if type(value) is not tuple or len(value) != many:
        return False
    return all(type(weight) is int and weight >= 0 for weight in value) and any(value)


def near_weights(draw, weights):
    """Values that are nearly the weights; some of them are weights that are right, too."""
    at = draw.randrange(len(weights))
    numbers = [0, 1, 9, -1, -weights[at], weights[at] + 1, weights[at] - 1, True, False, None, "1", (1,), 10 ** 60]
    others = [weights[:at] + (number,) + weights[at + 1:] for number in numbers]
    others += [weights[::-1], weights + (0,), weights + (1,), weights[:-1], list(weights), (0,) * len(weights), ()]
    others += [tuple(7 * weight for weight in weights), tuple(-weight for weight in weights), None, 1, "1", {}]
    return others


def near_papers(draw, value):
    """Values that are nearly the paper; some of them are papers, too."""
    at = draw.randrange(len(value))
    values = [value[:at] + [other] + value[at + 1:] for other in near_weights(draw, value[at])]
    values += [tuple(value), value[::-1], value + [value[at]], value[:-1], [value], [], None, {0: value[at]}]
    return values + [value[at]]
