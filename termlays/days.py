"""When the terms of a sheet begin and end at told lengths, in parts, 144 to a day."""

from termlays.errors import BadLengths
from termlays.sheets import is_name
from termlays.values import is_count


def is_lengths(sheet, value):
    """Whether any value is lengths for the sheet."""
    return has_days(value, sheet.names)


def has_days(value, names):
    """Whether any value is a dict from names to days that has all of these names."""
    if not isinstance(value, dict):
        return False
    if not all([is_name(name) and is_count(days) for name, days in value.items()]):
        return False
    return all([name in value for name in names])


def begins(sheet, lengths):
    """The dict from the names of the sheet to the parts at which their terms begin."""
    spans = _spans(full_lines(sheet), _served_days(sheet, lengths))
    return {name: start for name, (start, _) in spans.items()}


def ends(sheet, lengths):
    """The dict from the names of the sheet to the parts at which their terms end."""
    spans = _spans(full_lines(sheet), _served_days(sheet, lengths))
    return {name: stop for name, (_, stop) in spans.items()}


def end(sheet, lengths):
    """The end of the sheet."""
    return _last_stop(_spans(full_lines(sheet), _served_days(sheet, lengths)))


def least_end(sheet, lengths):
    """The least end of the sheet."""
    return _last_stop(_spans(sheet.lines, _served_days(sheet, lengths)))


def full_lines(sheet):
    """The lines of the sheet as if all of each term must be served: their least end is the end of the sheet."""
    return [(name, lay, 12) for name, lay, _ in sheet.lines]


def _served_days(sheet, lengths):
    """The days of each term, 0 if it is quashed, whatever the lengths say."""
    if not is_lengths(sheet, lengths):
        raise BadLengths(lengths)
    quashed = sheet.quashed
    return {name: 0 if name in quashed else lengths[name] for name in sheet.names}


def _spans(lines, days):
    """The dict from the names of the lines to the parts (start, stop) if of each term its least is served."""
    spans = {}
    for name, lay, least in lines:
        start = _start(lay, spans)
        stop = start + 12 * least * days[name]
        if lay[0] == "split":
            stop = max(stop, spans[lay[1]][1] + lay[2] * least * days[name])
        spans[name] = (start, stop)
    return spans


def _start(lay, spans):
    if lay[0] == "now":
        return 0
    if lay[0] == "behind":
        return max([spans[anchor][1] for anchor in lay[1]])
    return spans[lay[1]][0]


def _last_stop(spans):
    return max([stop for _, stop in spans.values()], default=0)
