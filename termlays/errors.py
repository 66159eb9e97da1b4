"""The errors of the package. Each one keeps what it is given, whatever that is."""


class TermError(ValueError):
    """Each error of the package is one of these."""


class BadName(TermError):
    """The value is no name."""

    def __init__(self, value):
        self.value = value


class BadLay(TermError):
    """The value is no lay."""

    def __init__(self, value):
        self.value = value


class BadShare(TermError):
    """The value is no share."""

    def __init__(self, value):
        self.value = value


class BadLines(TermError):
    """The value is no list or tuple."""

    def __init__(self, value):
        self.value = value


class BadRow(TermError):
    """The thing with this number, from 0, is no line."""

    def __init__(self, number):
        self.number = number


class NamedTwice(TermError):
    """An earlier line names the term, too."""

    def __init__(self, name):
        self.name = name


class NotNamed(TermError):
    """No earlier line names the anchor."""

    def __init__(self, name):
        self.name = name


class NoTerm(TermError):
    """The value is no name of a term of the sheet, or does not hold unlike names of its terms."""

    def __init__(self, value):
        self.value = value


class IsQuashed(TermError):
    """The term is quashed already."""

    def __init__(self, name):
        self.name = name


class NotQuashed(TermError):
    """The term is not quashed."""

    def __init__(self, name):
        self.name = name


class BadLengths(TermError):
    """The value is no lengths."""

    def __init__(self, value):
        self.value = value


class BadMatrix(TermError):
    """The value is no matrix."""

    def __init__(self, value):
        self.value = value


class BadChains(TermError):
    """The value is no list or tuple of one or more chains."""

    def __init__(self, value):
        self.value = value


class BadRanges(TermError):
    """The value is no ranges, or lacks a name."""

    def __init__(self, value):
        self.value = value


class NoLengths(TermError):
    """No lengths lie in the ranges."""


class BadAnswers(TermError):
    """The value is no dict from the lots to integers from 0 on."""

    def __init__(self, value):
        self.value = value


class NotWhole(TermError):
    """No whole ends have this answer for the lot."""

    def __init__(self, lot):
        self.lot = lot


class IsTold(TermError):
    """The length of the term is told already."""

    def __init__(self, name):
        self.name = name


class BadDays(TermError):
    """The value is no number of days."""

    def __init__(self, value):
        self.value = value


class Nothing(TermError):
    """There is no event to take back."""


class BadLine(TermError):
    """With the line of this number, from 1, the lines begin no text."""

    def __init__(self, line):
        self.line = line
