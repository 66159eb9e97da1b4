"""Chains, and those by which the terms of a sheet begin and end."""

from termlays.days import full_lines, has_days, is_lengths
from termlays.errors import BadLengths
from termlays.sheets import is_name
from termlays.values import is_int


def is_chain(value):
    """Whether any value is a chain: a tuple of pairs (name, parts) with unlike names, ascending."""
    if not isinstance(value, tuple) or not all([_is_pair(pair) for pair in value]):
        return False
    names = [name for name, _ in value]
    return names == sorted(set(names))


def amount(chain, lengths):
    """The sum of the parts of the chain, each times the days of its name."""
    if not has_days(lengths, [name for name, _ in chain if name != ""]):
        raise BadLengths(lengths)
    # The empty string is no key of lengths: it always has one day.
    return sum([parts * lengths.get(name, 1) for name, parts in chain])


def within(one, other):
    """Whether the one chain lies within the other one."""
    held = dict(other)
    return all([held.get(name, 0) >= parts for name, parts in one])


def added(one, other):
    """Both chains added, name by name."""
    total = dict(one)
    for name, parts in other:
        total[name] = total.get(name, 0) + parts
    return tuple(sorted(total.items()))


def chains_of(sheet):
    """The ascending list of the chains of the sheet."""
    return chains_told(full_lines(sheet), sheet.quashed, {}, {})


def least_chains_of(sheet):
    """The ascending list of the least chains of the sheet."""
    return chains_told(sheet.lines, sheet.quashed, {}, {})


def longest(sheet, lengths):
    """Any chain of the sheet with its end as amount."""
    if not is_lengths(sheet, lengths):
        raise BadLengths(lengths)
    return max(chains_of(sheet), key=lambda chain: amount(chain, lengths))


def chains_told(lines, quashed, told, laid):
    """The ascending list of the chains of lines, if of each term its least is served, and of the quashed ones nothing.

    Told is a dict from names to their days, laid one from names to the days on which their lines are laid, day 0 if
    they lack; both come in as parts of the empty string.
    """
    begins = {}
    ends = {}
    for name, lay, least in lines:
        word, twelfths = _served(name, 0 if name in quashed else least, told)
        begins[name] = _begin_chains(lay, begins, ends, laid.get(name, 0))
        stops = [_longer(chain, word, 12 * twelfths) for chain in begins[name]]
        if lay[0] == "split":
            stops = stops + [_longer(chain, word, lay[2] * twelfths) for chain in ends[lay[1]]]
        ends[name] = _outermost(stops)
    return _outermost([()] + [chain for stops in ends.values() for chain in stops])


def _is_pair(value):
    if not isinstance(value, tuple) or len(value) != 2:
        return False
    name, parts = value
    return (name == "" or is_name(name)) and is_int(parts) and parts >= 1


def _served(name, least, told):
    """The name under which the twelfths of a term come in, and how many of them: so many for each day that is told."""
    return ("", least * told[name]) if name in told else (name, least)


def _begin_chains(lay, begins, ends, day):
    """The chains by which a term begins that is laid on this day."""
    return _outermost(_anchor_chains(lay, begins, ends) + [_longer((), "", 144 * day)])


def _anchor_chains(lay, begins, ends):
    if lay[0] == "now":
        return [()]
    if lay[0] == "behind":
        return [chain for anchor in lay[1] for chain in ends[anchor]]
    return begins[lay[1]]


def _longer(chain, name, parts):
    """The chain with so many parts of the name more, perhaps none."""
    return added(chain, ((name, parts),)) if parts > 0 else chain


def _outermost(chains):
    """The unlike chains that lie within no other one of them, ascending.

    Terms begin and end with these alone: what comes of a chain that lies within another one would
    lie within what comes of that one, and be left out of the chains of the sheet all the same.
    """
    unlike = sorted(set(chains))
    return [chain for chain in unlike if not any([within(chain, other) for other in unlike if other != chain])]
