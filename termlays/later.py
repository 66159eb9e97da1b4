"""Whether ends are never later than other ends, the papers that show it, and the lengths that show it is not so."""

from termlays.ends import days_ahead, is_mixture, mixture
from termlays.values import counts


def never_later(one, other):
    """Whether the one is never later than the other one."""
    return paper(one, other) is not None


def paper(one, other):
    """Any paper that shows that the one is never later than the other one, None if there is none."""
    chains = other.chains
    told = []
    for chain in one.chains:
        weights = mixture(chain, chains)
        if weights is None:
            return None
        told.append(weights)
    return told


def is_paper(one, other, value):
    """Whether any value is a paper that shows that the one is never later than the other one."""
    ones, others = one.chains, other.chains
    if not isinstance(value, list) or len(value) != len(ones):
        return False
    return all([is_mixture(chain, others, weights) for chain, weights in zip(ones, value)])


def later_lengths(one, other):
    """Any dict from just the names of both to days at which the one is greater, None if there are none."""
    chains = other.chains
    for chain in one.chains:
        days = days_ahead(chain, chains)
        if days is not None:
            told = {pair[0]: number for pair, number in zip(chain, days)}
            return {name: told.get(name, 0) for name in _names_of_both(one, other)}
    return None


def is_later(one, other, value):
    """Whether any value is a dict from just the names of both to days at which the one is greater."""
    return counts(value, _names_of_both(one, other)) and _greatest(one, value) > _greatest(other, value)


def _names_of_both(one, other):
    return sorted(set(one.names + other.names))


def _greatest(ends, days):
    """The greatest amount of the ends, if the empty string, too, has days of its own."""
    return max([sum([parts * days[name] for name, parts in chain]) for chain in ends.chains])
