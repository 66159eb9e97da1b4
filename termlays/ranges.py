"""Ends at all lengths that lie in ranges: weights of chains show what holds at each corner of these."""

from termlays.chains import amount
from termlays.errors import BadRanges, NoLengths
from termlays.games import settled, weigh_up, weighs_up
from termlays.sheets import is_name
from termlays.values import is_count, is_weights, weighed


def corners(ranges, *, total=None):
    """The list of the corners of the ranges."""
    if not _is_ranges(ranges):
        raise BadRanges(ranges)
    names = sorted(ranges)
    told = sorted(set(_corner_days([ranges[name] for name in names], total)))
    if len(told) == 0:
        raise NoLengths()
    return [dict(zip(names, days)) for days in told]


def amounts(ends, ranges, *, total=None):
    """The matrix with a row for each corner and a column for each unbeaten chain of the ends."""
    _check_names(ranges, ends.names)
    chains = ends.chains
    return [[amount(chain, lengths) for chain in chains] for lengths in corners(ranges, total=total)]


def greatest_end(ends, ranges, *, total=None):
    """The greatest end in the ranges."""
    return max([max(row) for row in amounts(ends, ranges, total=total)])


def least_end_in(ends, ranges, *, total=None):
    """The least end at all mixtures of corners, a fraction in lowest terms."""
    return settled(amounts(ends, ranges, total=total))[0]


def paper_in(one, other, ranges, *, total=None):
    """Any paper that shows that the one is never later than the other one in the ranges, None if there is none."""
    ones, others = _columns_of_both(one, other, ranges, total)
    told = []
    for column in ones:
        weights = weigh_up(_gaps(others, column), len(column))[0]
        if weights is None:
            return None
        told.append(weights)
    return told


def is_paper_in(one, other, ranges, value, *, total=None):
    """Whether any value is a paper that shows that the one is never later than the other one in the ranges."""
    ones, others = _columns_of_both(one, other, ranges, total)
    if not isinstance(value, list) or len(value) != len(ones):
        return False
    return all([weighs_up(weights, _gaps(others, column)) for weights, column in zip(value, ones)])


def later_in(one, other, ranges, *, total=None):
    """Any weights of the corners that show that the one is later in the ranges, None if there are none."""
    ones, others = _columns_of_both(one, other, ranges, total)
    for column in ones:
        weights = weigh_up(_gaps(others, column), len(column))[1]
        if weights is not None:
            return weights
    return None


def is_later_in(one, other, ranges, value, *, total=None):
    """Whether any value is weights of the corners that show that the one is later in the ranges."""
    ones, others = _columns_of_both(one, other, ranges, total)
    return is_weights(value, len(ones[0])) and _greatest(value, ones) > _greatest(value, others)


def _is_ranges(value):
    """Whether any value is ranges."""
    return isinstance(value, dict) and all([is_name(name) and _is_range(span) for name, span in value.items()])


def _is_range(value):
    """Whether any value is a tuple (low, high) of integers, low from 0 on, high not less than low."""
    if not isinstance(value, tuple) or len(value) != 2:
        return False
    return is_count(value[0]) and is_count(value[1]) and value[0] <= value[1]


def _check_names(ranges, names):
    if not _is_ranges(ranges) or not all([name in ranges for name in names if name != ""]):
        raise BadRanges(ranges)


def _corner_days(spans, total):
    """The tuples of the days of the corners, one for each span, perhaps some of them twice."""
    outer = _outer_days(spans)
    if total is None:
        return outer
    told = [days for days in outer if sum(days) == total]
    for at, (low, high) in enumerate(spans):
        for days in _outer_days(spans[:at] + spans[at + 1:]):
            rest = total - sum(days)
            if low <= rest <= high:
                told.append(days[:at] + (rest,) + days[at:])
    return told


def _outer_days(spans):
    """The tuples in which each span has its low or its high."""
    told = [()]
    for span in spans:
        told = [days + (day,) for days in told for day in span]
    return told


def _columns_of_both(one, other, ranges, total):
    """For each chain of the one, then of the other one, the list of its amounts at the corners."""
    _check_names(ranges, one.names + other.names)
    told = corners(ranges, total=total)
    return _columns(one.chains, told), _columns(other.chains, told)


def _columns(chains, told):
    return [[amount(chain, lengths) for lengths in told] for chain in chains]


def _gaps(columns, column):
    """By how much the columns are ahead of the column, row by row."""
    return [[more - less for more, less in zip(other, column)] for other in columns]


def _greatest(weights, columns):
    return max([weighed(weights, column) for column in columns])
