"""Sheets made lean: without the anchors that a term may just as well not be laid behind."""

from termlays.chains import chains_of
from termlays.sheets import Sheet, anchors_of


def spare(sheet):
    """The ascending list of (number, name) of the spare anchors, number that of the line, from 0."""
    placed = [(number, anchor) for number, line in enumerate(sheet.lines) for anchor in anchors_of(line[1])]
    return sorted([(number, anchor) for number, anchor in placed if _is_spare(sheet, number, anchor)])


def lean(sheet):
    """The sheet without any spare anchor."""
    left = sheet
    for number in reversed(range(len(sheet))):
        for anchor in reversed(anchors_of(sheet.lines[number][1])):
            if _is_spare(left, number, anchor):
                left = _without_anchor(left, number, anchor)
    return left


def _is_spare(sheet, number, anchor):
    """Whether the anchor of the line with this number is spare."""
    if len(anchors_of(sheet.lines[number][1])) < 2:
        return False
    # No chain of a sheet is beaten by the others: so its ends are equal just if its chains are the same.
    return chains_of(_without_anchor(sheet, number, anchor)) == chains_of(sheet)


def _without_anchor(sheet, number, anchor):
    lines = sheet.lines
    name, lay, least = lines[number]
    lines[number] = (name, ("behind", tuple([other for other in lay[1] if other != anchor])), least)
    return Sheet(lines, quashed=sheet.quashed)
