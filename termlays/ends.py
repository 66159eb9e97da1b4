"""Mixtures of chains, and ends, which chains tell."""

from termlays.chains import added, amount, chains_of, is_chain, least_chains_of
from termlays.errors import BadChains
from termlays.games import weigh_up, weighs_up


def is_mixture(chain, chains, value):
    """Whether any value is weights, one for each of the chains, by which the chain lies within the mixture."""
    return weighs_up(value, _all_parts_ahead(chains, chain))


def mixture(chain, chains):
    """Any weights by which the chain lies within the mixture of the chains, None if there are none."""
    return weigh_up(_all_parts_ahead(chains, chain), len(chain))[0]


def days_ahead(chain, chains):
    """Any days, one for each name of the chain, at which it is ahead of all of the chains, None if there are none.

    All other names have no days, and the empty string counts as a name like the others.
    """
    return weigh_up(_all_parts_ahead(chains, chain), len(chain))[1]


def ends_of(sheet):
    """The ends told by the chains of the sheet."""
    return Ends(chains_of(sheet))


def least_ends_of(sheet):
    """The ends told by the least chains of the sheet."""
    return Ends(least_chains_of(sheet))


def _all_parts_ahead(chains, chain):
    return [_parts_ahead(other, chain) for other in chains]


def _parts_ahead(other, chain):
    """By how many parts the other chain is ahead of the chain, for each name of the chain."""
    held = dict(other)
    return [held.get(name, 0) - parts for name, parts in chain]


def _are_chains(value):
    """Whether any value is a list or a tuple of one or more chains."""
    return isinstance(value, (list, tuple)) and len(value) > 0 and all([is_chain(chain) for chain in value])


def _unbeaten(chains):
    """The unbeaten chains of the list, ascending."""
    left = sorted(set(chains))
    for chain in list(left):
        # What is beaten may go at once: in each mixture, the others can take its place.
        others = [other for other in left if other != chain]
        if mixture(chain, others) is not None:
            left = others
    return left


def _times(chain, times):
    return tuple([(name, parts * times) for name, parts in chain if times > 0])


def _without(chain, name):
    return tuple([pair for pair in chain if pair[0] != name])


class Ends:
    """Ends, told by one or more chains; of these the unbeaten ones are kept. Ends never change."""

    def __init__(self, chains):
        if not _are_chains(chains):
            raise BadChains(chains)
        self._chains = _unbeaten(chains)

    @property
    def chains(self):
        """The ascending list of the unbeaten chains."""
        return list(self._chains)

    @property
    def names(self):
        """The ascending list of the names in the unbeaten chains."""
        return sorted({name for chain in self._chains for name, _ in chain})

    def __eq__(self, other):
        if not isinstance(other, Ends):
            return False
        return self._chains == other._chains

    def __add__(self, other):
        """The ends of the one behind the other."""
        return Ends([added(chain, behind) for chain in self._chains for behind in other._chains])

    def __or__(self, other):
        """The later of both ends."""
        return Ends(self._chains + other._chains)

    def __mul__(self, other):
        """The ends so many times."""
        return Ends([_times(chain, other) for chain in self._chains])

    def at(self, lengths):
        """The greatest amount at the lengths."""
        return max([amount(chain, lengths) for chain in self._chains])

    def without(self, name):
        """The ends without a name, or without the empty string."""
        return Ends([_without(chain, name) for chain in self._chains])
