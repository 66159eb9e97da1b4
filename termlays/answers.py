"""What ends answer if each term has one day or none, and the whole ends that are told back from it."""

from itertools import combinations

from termlays.ends import Ends
from termlays.errors import BadAnswers, NotWhole
from termlays.values import counts


def lots(names):
    """The list of all lots of the names, the shorter ones first, those of one length ascending."""
    told = sorted(set(names))
    return [lot for many in range(len(told) + 1) for lot in combinations(told, many)]


def answers(ends, names):
    """The dict from all lots of the names to the ends at the lengths in which those of the lot have one day."""
    return {lot: ends.at({name: 1 if name in lot else 0 for name in names}) for lot in lots(names)}


def is_whole(ends):
    """Whether all unbeaten chains have 144 parts of each of their names, and none of the empty string."""
    return all([name != "" and parts == 144 for chain in ends.chains for name, parts in chain])


def told_back(names, answers):
    """The whole ends that have these answers."""
    told = lots(names)
    if not counts(answers, told):
        raise BadAnswers(answers)
    full = [lot for lot in told if answers[lot] == 144 * len(lot)]
    for lot in told:
        if answers[lot] != _whole_answer(full, lot):
            raise NotWhole(lot)
    # The lots that longer ones contain may stay: their chains are beaten.
    return Ends([tuple([(name, 144) for name in lot]) for lot in full])


def _whole_answer(full, lot):
    """The answer for the lot of the ends told by the full lots; if there are none, the empty lot is the wrong one."""
    return max([144 * len([name for name in lot if name in other]) for other in full], default=0)
