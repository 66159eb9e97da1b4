"""Games: matrices, and the weights of their columns and rows by which they are settled."""

from math import gcd

from termlays.errors import BadMatrix
from termlays.values import is_int, is_weights, weighed


def is_matrix(value):
    """Whether any value is a matrix: a list of one or more rows, each a list of as many integers, one or more."""
    if not isinstance(value, list) or len(value) == 0 or not all([_is_row(row) for row in value]):
        return False
    return all([len(row) == len(value[0]) for row in value])


def settled(matrix):
    """Any settlement of the matrix."""
    if not is_matrix(matrix):
        raise BadMatrix(matrix)
    # All entries are lifted to 1 or more. Then the greatest sum of weights of the rows, such that in no column the
    # entries come to more than 1, is 1 divided by the value; and no weights at all are a place to start from.
    lift = 1 - min([min(row) for row in matrix])
    table, scale, free, bound = _best_table(_first_table(matrix, lift))
    many = len(matrix)
    held = {number: line[-1] for number, line in zip(bound, table)}
    costs = {number: cost for number, cost in zip(free, table[-1])}
    columns = _lowest([costs.get(number, 0) for number in range(many, many + len(matrix[0]))])
    rows = _lowest([held.get(number, 0) for number in range(many)])
    total = table[-1][-1]
    return _lowest([scale - lift * total, total]), columns, rows


def is_settled(matrix, value):
    """Whether any value is a settlement of the matrix."""
    if not is_matrix(matrix):
        raise BadMatrix(matrix)
    if not isinstance(value, tuple) or len(value) != 3:
        return False
    worth, columns, rows = value
    if not _is_fraction(worth) or not is_weights(columns, len(matrix[0])) or not is_weights(rows, len(matrix)):
        return False
    top, bottom = worth
    if not all([bottom * weighed(columns, row) >= top * sum(columns) for row in matrix]):
        return False
    return all([bottom * weighed(rows, column) <= top * sum(rows) for column in zip(*matrix)])


def weigh_up(columns, many):
    """Weights by which the columns come to 0 or more in each of so many rows, and None; or, if there are none, the
    other way round: None, and weights of the rows by which each column comes to less than 0.
    """
    for number, column in enumerate(columns):
        if all([entry >= 0 for entry in column]):
            return _spread({number: 1}, len(columns)), None
    # There are weights just if the value of the game is not below 0. Mostly the game of a few of the columns shows it:
    # its rows are weights by which none of these comes up to 0, so either one more column does, or none at all.
    rows = (1,) * many
    picked = []
    while True:
        sums = [weighed(rows, column) for column in columns]
        if max(sums, default=-1) < 0:
            return None, rows
        picked.append(sums.index(max(sums)))
        value, weights, rows = settled([[columns[number][row] for number in picked] for row in range(many)])
        if value[0] >= 0:
            return _spread(dict(zip(picked, weights)), len(columns)), None


def weighs_up(value, columns):
    """Whether any value is weights by which the columns come to 0 or more in each row."""
    return is_weights(value, len(columns)) and all([weighed(value, row) >= 0 for row in zip(*columns)])


def _is_row(value):
    return isinstance(value, list) and len(value) > 0 and all([is_int(entry) for entry in value])


def _is_fraction(value):
    """Whether any value is a fraction (n, d) in lowest terms with d from 1 on."""
    if not isinstance(value, tuple) or len(value) != 2 or not all([is_int(number) for number in value]):
        return False
    return value[1] >= 1 and gcd(value[0], value[1]) == 1


def _lowest(numbers):
    """The tuple of the numbers, not all 0, divided by their greatest common divisor."""
    common = 0
    for number in numbers:
        common = gcd(common, number)
    return tuple([number // common for number in numbers])


def _spread(weights, many):
    """So many weights, those that are told by their numbers, all others 0."""
    return tuple([weights.get(number, 0) for number in range(many)])


def _first_table(matrix, lift):
    """A line for each column of the matrix, what is left of 1 last, and a line of what a weight of each row costs."""
    lines = [[entry + lift for entry in column] + [1] for column in zip(*matrix)]
    return lines + [[-1] * len(matrix) + [0]]


def _best_table(table):
    """The table of the best weights, its scale, and the numbers of its columns and of its lines.

    This is the simplex method. The numbers are those of the rows of the matrix, then those of its columns. Each entry
    stands for itself divided by the scale; so all of them stay integers, and the divisions come out even.
    """
    free = list(range(len(table[0]) - 1))
    bound = list(range(len(free), len(free) + len(table) - 1))
    scale = 1
    careful = False
    while True:
        column = _gaining(table[-1], free, careful)
        if column is None:
            return table, scale, free, bound
        line = _tightest(table, bound, column)
        # Steps that gain nothing could go round for ever, if not the least numbers were taken (Bland's rule).
        careful = table[line][-1] == 0
        pivot = table[line][column]
        table = _turned(table, scale, line, column)
        scale = pivot
        free[column], bound[line] = bound[line], free[column]


def _gaining(costs, free, careful):
    """The column by which most is gained, or, with care, the one of the least number that gains; None if none does."""
    gaining = [column for column in range(len(free)) if costs[column] < 0]
    if careful:
        return min(gaining, key=lambda column: free[column], default=None)
    return min(gaining, key=lambda column: costs[column], default=None)


def _tightest(table, bound, column):
    """The line that lets the column grow least, of several the one of the least number."""
    tightest = None
    for line in range(len(bound)):
        if table[line][column] > 0 and (tightest is None or _is_tighter(table, bound, column, line, tightest)):
            tightest = line
    return tightest


def _is_tighter(table, bound, column, line, other):
    gap = table[line][-1] * table[other][column] - table[other][-1] * table[line][column]
    return gap < 0 or gap == 0 and bound[line] < bound[other]


def _turned(table, scale, line, column):
    """The table in which the line and the column have changed places."""
    top = table[line]
    turned = [_turned_line(entries, top, scale, column) for entries in table]
    turned[line] = top[:column] + [scale] + top[column + 1:]
    return turned


def _turned_line(entries, top, scale, column):
    pivot, factor = top[column], entries[column]
    turned = [(pivot * entry - factor * other) // scale for entry, other in zip(entries, top)]
    turned[column] = -factor
    return turned
