"""Which terms matter to ends, how much room they have, and to which of them days go best."""

from termlays.chains import amount, chains_of
from termlays.days import end, is_lengths
from termlays.ends import Ends, mixture
from termlays.errors import BadLengths, NoTerm

# No name, and not the empty string, either: so ends that have this one can be marked, too.
_MARK = "-"


def matters(ends, name):
    """Whether the name, or the empty string, matters to the ends."""
    return name in ends.names


def gain(ends, name):
    """The greatest number of parts of the name in an unbeaten chain."""
    return max([_parts(chain, name) for chain in ends.chains])


def room(sheet, lengths, name):
    """By how many days the term can be longer so that the end stays the same, None if the end never changes by it."""
    if not is_lengths(sheet, lengths):
        raise BadLengths(lengths)
    if name not in sheet.names:
        raise NoTerm(name)
    last = end(sheet, lengths)
    chains = [chain for chain in chains_of(sheet) if _parts(chain, name) > 0]
    return min([(last - amount(chain, lengths)) // _parts(chain, name) for chain in chains], default=None)


def marked(ends, name):
    """The ends marked by a name; those that have the empty string themselves stay as they are."""
    if "" in ends.names:
        return ends
    return Ends(_marked_chains(ends, name, ""))


def never_worse(ends, one, other):
    """Whether it is never worse to put days to the name one than to the name other."""
    # Let both names have so many days more than they need: then the days come in with the parts of the other name
    # if they are put to the one, and with those of the one if they are put to the other.
    chains = _marked_chains(ends, one, _MARK)
    return all([mixture(chain, chains) is not None for chain in _marked_chains(ends, other, _MARK)])


def best_served(sheet, lengths, days):
    """The ascending list of the names of the terms to which days are put so that the end is least."""
    if not is_lengths(sheet, lengths):
        raise BadLengths(lengths)
    told = {name: end(sheet, _served(lengths, name, days)) for name in sheet.names}
    least = min(told.values(), default=0)
    return sorted([name for name, last in told.items() if last == least])


def _parts(chain, name):
    return dict(chain).get(name, 0)


def _marked_chains(ends, name, mark):
    """The unbeaten chains of the ends, those that have the name with the same parts of the mark, too."""
    return [_marked_chain(chain, mark, _parts(chain, name)) for chain in ends.chains]


def _marked_chain(chain, mark, parts):
    return ((mark, parts),) + chain if parts > 0 else chain


def _served(lengths, name, days):
    """The lengths with so many days of the name served, but no more than it has."""
    left = dict(lengths)
    left[name] = max(0, lengths[name] - days)
    return left
