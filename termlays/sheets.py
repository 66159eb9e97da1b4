"""Names, lays, lines, and the sheets that are made of them."""

from termlays.errors import BadLay, BadLines, BadName, BadRow, BadShare
from termlays.errors import IsQuashed, NamedTwice, NoTerm, NotNamed, NotQuashed
from termlays.values import is_int


def is_name(value):
    """Whether any value is a name: a string of one to eight letters from a to z."""
    return isinstance(value, str) and 1 <= len(value) <= 8 and all(["a" <= sign <= "z" for sign in value])


def is_share(value):
    """Whether any value is a share: an integer from 0 to 12."""
    return is_int(value) and 0 <= value <= 12


def is_lay(value):
    """Whether any value is a lay."""
    if not isinstance(value, tuple):
        return False
    if len(value) == 1:
        return value[0] == "now"
    if len(value) == 2 and value[0] == "behind":
        return _are_anchors(value[1])
    if len(value) == 2:
        return value[0] == "beside" and is_name(value[1])
    return len(value) == 3 and value[0] == "split" and is_name(value[1]) and is_int(value[2]) and 1 <= value[2] <= 11


def is_line(value):
    """Whether any value is a line: a tuple (name, lay, least)."""
    if not isinstance(value, tuple) or len(value) != 3:
        return False
    return is_name(value[0]) and is_lay(value[1]) and is_share(value[2])


def anchors_of(lay):
    """The tuple of the names in a lay."""
    if lay[0] == "now":
        return ()
    if lay[0] == "behind":
        return lay[1]
    return (lay[1],)


def _are_anchors(value):
    if not isinstance(value, tuple) or len(value) == 0:
        return False
    return all([is_name(name) for name in value]) and len(set(value)) == len(value)


def _check_rows(lines):
    if not isinstance(lines, (list, tuple)):
        raise BadLines(lines)
    for number, line in enumerate(lines):
        if not is_line(line):
            raise BadRow(number)


def _check_names(lines):
    earlier = {}
    for name, lay, _ in lines:
        if name in earlier:
            raise NamedTwice(name)
        for anchor in anchors_of(lay):
            if anchor not in earlier:
                raise NotNamed(anchor)
        earlier[name] = True


def _check_quashed(quashed, names):
    # The names are asked for in a list, since what is quashed may hold anything, also what no dict can look up.
    if not isinstance(quashed, (list, tuple)) or not all([name in names for name in quashed]):
        raise NoTerm(quashed)
    if len(set(quashed)) < len(quashed):
        raise NoTerm(quashed)


class Sheet:
    """Lines that lay terms, with some of the terms quashed. A sheet never changes."""

    def __init__(self, lines, *, quashed=()):
        _check_rows(lines)
        _check_names(lines)
        _check_quashed(quashed, [line[0] for line in lines])
        self._lines = list(lines)
        self._quashed = tuple(sorted(quashed))

    @property
    def lines(self):
        """The list of the lines."""
        return list(self._lines)

    @property
    def names(self):
        """The list of the names, in the order of the lines."""
        return [line[0] for line in self._lines]

    @property
    def quashed(self):
        """The ascending tuple of the quashed names."""
        return self._quashed

    def __len__(self):
        return len(self._lines)

    def __eq__(self, other):
        if not isinstance(other, Sheet):
            return False
        return self._lines == other._lines and self._quashed == other._quashed

    def line_named(self, name):
        """The line of a name."""
        for line in self._lines:
            if line[0] == name:
                return line
        raise NoTerm(name)

    def with_line(self, name, lay, *, least=12):
        """The sheet with one line more."""
        if not is_name(name):
            raise BadName(name)
        if not is_lay(lay):
            raise BadLay(lay)
        if not is_share(least):
            raise BadShare(least)
        return Sheet(self._lines + [(name, lay, least)], quashed=self._quashed)

    def quash(self, name):
        """The sheet in which this term is quashed, too."""
        if name not in self.names:
            raise NoTerm(name)
        if name in self._quashed:
            raise IsQuashed(name)
        return Sheet(self._lines, quashed=self._quashed + (name,))

    def restore(self, name):
        """The sheet in which this term is not quashed any more."""
        if name not in self.names:
            raise NoTerm(name)
        if name not in self._quashed:
            raise NotQuashed(name)
        return Sheet(self._lines, quashed=[other for other in self._quashed if other != name])
