"""[9]: matrices and what settles them."""

import copy
import random
import unittest
from fractions import Fraction
from math import gcd

from termlays.errors import BadMatrix
from termlays.games import is_matrix, is_settled, settled
from tests.samples import ANY_VALUES, raised

MATRICES = [
    [[0]], [[-5]], [[1, 2, 3]], [[1], [2], [3]], [[1, 2], [3, 4]], [[10 ** 60, -(10 ** 60)]], [[0, 0], [0, 0]],
    [[1, 0], [0, 1]], [[7] * 9] * 9,
]
NEAR_MATRICES = [
    [], [[]], [[], []], [[1], []], [[], [1]], [[1, 2], [3]], [[1], [2, 3]], [[1, 2], [3, 4], [5, 6, 7]],
    [[True]], [[False]], [[1, True], [0, 1]], [[1, 0], [0, False]], [[None]], [["1"]], [[(1,)]], [[[1]]], [[1, "2"]],
    ([1],), ((1,),), [(1,)], [(1, 2), (3, 4)], [[1, 2], (3, 4)], ([1, 2], [3, 4]), [1], [1, 2], 1, "1", ["12"],
    {0: [1]}, [{0: 1}], [[1], None], [None, [1]], [[1], 1], ["1", [1]],
]
# Each matrix with the value that it has by hand.
TOLD = [
    ([[4]], (4, 1)), ([[-4]], (-4, 1)), ([[0]], (0, 1)),
    ([[3, 1]], (3, 1)), ([[1, 5, 2]], (5, 1)), ([[-3, -1]], (-1, 1)),
    ([[3], [1]], (1, 1)), ([[1], [5], [2]], (1, 1)), ([[-3], [-1]], (-3, 1)),
    # With saddles: the least entry of its row and the greatest of its column, or the other way round.
    ([[1, 2], [3, 4]], (2, 1)), ([[4, 1], [3, 2]], (3, 1)), ([[5, 0, 9], [6, -2, 7]], (7, 1)),
    # Without.
    ([[1, 0], [0, 1]], (1, 2)), ([[2, -1], [-1, 1]], (1, 5)), ([[0, 1, -1], [-1, 0, 1], [1, -1, 0]], (0, 1)),
    ([[3, 0], [0, 6]], (2, 1)), ([[-1, -3], [-4, -2]], (-5, 2)), ([[2, 0, 0], [0, 3, 0], [0, 0, 6]], (1, 1)),
    ([[1, 0, 0], [0, 1, 0], [0, 0, 1]], (1, 3)), ([[0, 1, 1], [1, 0, 1], [1, 1, 0]], (2, 3)),
    # With equal rows, equal columns, and both.
    ([[1, 0], [1, 0], [0, 1]], (1, 2)), ([[1, 1, 0], [0, 0, 1]], (1, 2)), ([[2, 2], [2, 2]], (2, 1)),
    ([[1, 0, 1, 0], [0, 1, 0, 1], [1, 0, 1, 0]], (1, 2)),
    # Of many digits.
    ([[10 ** 60, 0], [0, 10 ** 60]], (5 * 10 ** 59, 1)), ([[10 ** 60, 0], [0, 1]], (10 ** 60, 10 ** 60 + 1)),
    ([[-(10 ** 60)]], (-(10 ** 60), 1)), ([[10 ** 400, 10 ** 400 + 1], [1, 10 ** 400]], (10 ** 400, 1)),
]


def settles(matrix, value):
    """Whether a value (of the right kind) settles the matrix, row by row and column by column, in fractions."""
    (top, bottom), columns, rows = value
    worth = Fraction(top, bottom)
    if (worth.numerator, worth.denominator) != (top, bottom):
        return False
    for entries in matrix:
        if Fraction(sum(entry * weight for entry, weight in zip(entries, columns)), sum(columns)) < worth:
            return False
    for at in range(len(matrix[0])):
        if Fraction(sum(entries[at] * weight for entries, weight in zip(matrix, rows)), sum(rows)) > worth:
            return False
    return True


def drawn_matrix(draw, rows, columns, low, high):
    return [[draw.randint(low, high) for _ in range(columns)] for _ in range(rows)]


class Matrices(unittest.TestCase):

    def test_right_ones(self):
        for value in MATRICES + [matrix for matrix, _ in TOLD]:
            with self.subTest(value=value):
                self.assertIs(is_matrix(value), True)
                self.assertIs(is_matrix(value=value), True)

    def test_near_ones_and_any_value(self):
        right = [[1]], [[1, 0], [0, 1]]
        for value in NEAR_MATRICES + [value for value in ANY_VALUES if value not in right]:
            held = copy.deepcopy(value)
            with self.subTest(value=value):
                self.assertIs(is_matrix(value), False)
                self.assertIs(is_matrix(value=value), False)
                self.assertIs(raised(BadMatrix, settled, value).value, value)
                self.assertIs(raised(BadMatrix, settled, matrix=value).value, value)
                self.assertIs(raised(BadMatrix, is_settled, value, ((1, 1), (1,), (1,))).value, value)
                self.assertIs(raised(BadMatrix, is_settled, value=None, matrix=value).value, value)
                self.assertEqual(value, held)

    def test_of_each_size(self):
        for rows in range(4):
            for columns in range(4):
                self.assertIs(is_matrix([[1] * columns for _ in range(rows)]), rows > 0 and columns > 0)


class Settled(unittest.TestCase):

    def check(self, matrix):
        """What is told is of the right kind and settles the matrix, which stays as it was, and it is told again."""
        held = copy.deepcopy(matrix)
        told = settled(matrix)
        self.assertIs(type(told), tuple)
        self.assertEqual(len(told), 3)
        value, columns, rows = told
        self.assertEqual([type(part) for part in told], [tuple, tuple, tuple])
        self.assertEqual([len(value), len(columns), len(rows)], [2, len(matrix[0]), len(matrix)])
        self.assertTrue(all(type(number) is int for part in told for number in part))
        self.assertTrue(value[1] >= 1 and gcd(value[0], value[1]) == 1)
        self.assertTrue(min(columns) >= 0 and min(rows) >= 0 and sum(columns) > 0 and sum(rows) > 0)
        self.assertTrue(settles(matrix, told), (matrix, told))
        self.assertIs(is_settled(matrix, told), True)
        self.assertEqual(matrix, held)
        self.assertEqual(settled(matrix=copy.deepcopy(matrix)), told)
        return value

    def test_by_hand(self):
        for matrix, value in TOLD:
            with self.subTest(matrix=matrix):
                self.assertEqual(self.check(matrix), value)

    def test_of_each_small_size(self):
        draw = random.Random(1)
        for rows in range(1, 8):
            for columns in range(1, 8):
                for most in (1, 2, 9, 10 ** 60):
                    for low in (-most, 0):
                        self.check(drawn_matrix(draw, rows, columns, low, most))

    def test_entries_all_below_or_above(self):
        draw = random.Random(2)
        for _ in range(30):
            size = draw.randint(1, 6), draw.randint(1, 6)
            self.assertLess(self.check(drawn_matrix(draw, *size, -9, -1))[0], 0)
            self.assertGreater(self.check(drawn_matrix(draw, *size, 1, 9))[0], 0)
            self.check(drawn_matrix(draw, *size, 10 ** 90, 10 ** 90 + 3))

    def test_with_saddles(self):
        draw = random.Random(3)
        for _ in range(60):
            matrix = drawn_matrix(draw, draw.randint(1, 6), draw.randint(1, 6), -9, 9)
            row, column, saddle = draw.randrange(len(matrix)), draw.randrange(len(matrix[0])), draw.randint(-5, 5)
            # The greatest entry of its row, and the least one of its column.
            matrix[row] = [min(entry, saddle) for entry in matrix[row]]
            for entries in matrix:
                entries[column] = max(entries[column], saddle)
            matrix[row][column] = saddle
            self.assertEqual(self.check(matrix), (saddle, 1))

    def test_with_equal_rows_and_columns(self):
        draw = random.Random(4)
        for _ in range(40):
            matrix = drawn_matrix(draw, draw.randint(1, 4), draw.randint(1, 4), -2, 2)
            value = self.check(matrix)
            wide = [entries + entries[::-1] for entries in matrix]
            self.assertEqual([self.check(wide), self.check(wide + wide)], [value, value])

    def test_turned_round(self):
        # Who takes the columns of the one takes the rows of the other, and gains what he lost.
        draw = random.Random(5)
        for _ in range(60):
            matrix = drawn_matrix(draw, draw.randint(1, 6), draw.randint(1, 6), -12, 12)
            top, bottom = self.check(matrix)
            self.assertEqual(self.check([[-entry for entry in column] for column in zip(*matrix)]), (-top, bottom))

    def test_lifted_and_multiplied(self):
        draw = random.Random(6)
        for _ in range(30):
            matrix = drawn_matrix(draw, draw.randint(1, 5), draw.randint(1, 5), -12, 12)
            value = Fraction(*self.check(matrix))
            for times, more in ((10 ** 40, 0), (1, 10 ** 50), (3, -7), (10 ** 60, -(10 ** 61))):
                other = [[entry * times + more for entry in entries] for entries in matrix]
                self.assertEqual(Fraction(*self.check(other)), value * times + more)

    def test_large_ones(self):
        draw = random.Random(7)
        for rows, columns, most in [(9, 40, 500), (40, 9, 500), (9, 100, 10 ** 60), (12, 12, 10 ** 60), (30, 30, 1),
                                    (32, 40, 1), (1, 200, 3), (200, 1, 3), (25, 25, 10 ** 20)]:
            self.check(drawn_matrix(draw, rows, columns, -most, most))

    def test_ties_everywhere(self):
        # Steps that gain nothing are tried again and again here.
        draw = random.Random(8)
        for _ in range(40):
            size = draw.randint(5, 14)
            self.check([[draw.choice([0, 0, 0, 1]) for _ in range(size)] for _ in range(size)])
            self.check([[int(at == row) for at in range(size)] for row in range(size)])
            self.check([[(at - row) % size for at in range(size)] for row in range(size)])

    def test_the_settlement_is_new(self):
        matrix = [[1, 0], [0, 1]]
        told = settled(matrix)
        matrix[0][0] = 9
        self.assertEqual(settled([[1, 0], [0, 1]]), told)
        self.assertEqual(settled(matrix)[0], (9, 10))


class IsSettled(unittest.TestCase):

    def test_right_ones(self):
        told = [
            ([[1, 0], [0, 1]], ((1, 2), (1, 1), (1, 1))), ([[1, 0], [0, 1]], ((1, 2), (7, 7), (10 ** 60, 10 ** 60))),
            ([[3, 1]], ((3, 1), (1, 0), (2,))), ([[0]], ((0, 1), (5,), (7,))), ([[-2]], ((-2, 1), (1,), (1,))),
            ([[2, 2], [2, 2]], ((2, 1), (0, 4), (3, 5))), ([[-1, -3], [-4, -2]], ((-5, 2), (1, 3), (2, 2))),
            ([[1], [1], [2]], ((1, 1), (9,), (0, 3, 0))),
        ]
        for matrix, value in told:
            with self.subTest(matrix=matrix, value=value):
                self.assertTrue(settles(matrix, value))
                self.assertIs(is_settled(matrix, value), True)
                self.assertIs(is_settled(value=value, matrix=matrix), True)

    def test_weights_multiplied(self):
        draw = random.Random(10)
        for _ in range(40):
            matrix = drawn_matrix(draw, draw.randint(1, 6), draw.randint(1, 6), -9, 9)
            value, columns, rows = settled(matrix)
            for times in (2, 13, 10 ** 60):
                more = tuple(times * weight for weight in columns)
                other = tuple((times + 1) * weight for weight in rows)
                self.assertIs(is_settled(matrix, (value, more, other)), True)

    def test_near_ones(self):
        half, both = (1, 2), (1, 1)
        wrong = [
            # Values that are another one, not in lowest terms, or no fraction.
            ((1, 3), both, both), ((2, 3), both, both), ((0, 1), both, both), ((1, 1), both, both),
            ((2, 4), both, both), ((-1, -2), both, both), ((1, -2), both, both), ((-1, 2), both, both),
            ((1, 0), both, both),
            ((5 * 10 ** 59, 10 ** 60), both, both), ((2, 1), both, both),
            ((1,), both, both), ((1, 2, 1), both, both), ([1, 2], both, both), ((True, 2), both, both), (0, both, both),
            (((1, 2),), both, both), ("12", both, both), (("1", "2"), both, both), ((1, None), both, both),
            # Weights that are others, none, too many or too few.
            (half, (1, 0), both), (half, (0, 1), both), (half, (2, 1), both), (half, both, (1, 0)),
            (half, both, (1, 2)),
            (half, (0, 0), both), (half, both, (0, 0)), (half, (-1, -1), both), (half, both, (-1, -1)),
            (half, (1, -1), both), (half, both, (-1, 1)), (half, (1, 1, 0), both), (half, both, (1, 1, 1)),
            (half, (1,), both), (half, both, (1,)), (half, (), both), (half, both, ()), (half, (1, 1, 1, 1), both),
            (half, [1, 1], both), (half, both, [1, 1]), (half, (True, 1), both), (half, both, (1, True)),
            (half, (True, True), both), (half, ("1", "1"), both), (half, both, (None, None)),
            (half, both, ((1,), (1,))),
            (half, 1, both), (half, both, 1), (half, "11", both), (half, {0: 1, 1: 1}, both),
            # No tuple of three.
            [half, both, both], (half, both), (half, both, both, both), (half,), (), half, (both, both, half),
            {half: both}, "abc", ((half, both, both),),
        ]
        for value in wrong + [value for value in ANY_VALUES if value != (half, both, both)]:
            held = copy.deepcopy(value)
            with self.subTest(value=value):
                self.assertIs(is_settled([[1, 0], [0, 1]], value), False)
                self.assertIs(is_settled(matrix=[[1, 0], [0, 1]], value=value), False)
                self.assertEqual(value, held)

    def test_near_ones_of_value_none(self):
        for value in [((0, 2), (1,), (1,)), ((0, -1), (1,), (1,)), ((False, 1), (1,), (1,)), ((0, True), (1,), (1,)),
                      ((0, 0), (1,), (1,)), ((0, 1), (0,), (1,)), ((0, 1), (1,), (0,))]:
            self.assertIs(is_settled([[0]], value), False)
        self.assertIs(is_settled([[0]], ((0, 1), (1,), (1,))), True)

    def test_weights_below_none_are_none_whatever_they_come_to(self):
        told = [((2, -1), (1, 1)), ((1, 1), (3, -1)), ((-1, 3), (2, -1)), ((-1, -1), (1, 1)), ((1, 1), (-2, 1))]
        for columns, rows in told:
            self.assertIs(is_settled([[1, 1], [1, 1]], ((1, 1), columns, rows)), False)
        self.assertIs(is_settled([[1, 1], [1, 1]], ((1, 1), (2, 0), (0, 1))), True)

    def test_parts_for_another_shape(self):
        self.assertIs(is_settled([[3, 1]], ((3, 1), (2,), (1, 0))), False)
        self.assertIs(is_settled([[3, 1]], ((3, 1), (1, 0), (2, 0))), False)
        self.assertIs(is_settled([[3, 1]], ((3, 1), (0, 1), (2,))), False)
        self.assertIs(is_settled([[3], [1]], ((1, 1), (1,), (1, 0))), False)
        self.assertIs(is_settled([[3], [1]], ((1, 1), (1,), (0, 1))), True)

    def test_against_own_sums(self):
        draw = random.Random(11)
        right = 0
        for _ in range(3000):
            matrix = drawn_matrix(draw, draw.randint(1, 2), draw.randint(1, 2), 0, 2)
            weights = [tuple(draw.randint(0, 2) for _ in range(many)) for many in (len(matrix[0]), len(matrix))]
            if all(sum(part) for part in weights):
                value = (draw.choice([(0, 1), (1, 1), (2, 1), (1, 2), (2, 3), (3, 2), (4, 3)]), *weights)
                right += settles(matrix, value)
                self.assertIs(is_settled(matrix, value), settles(matrix, value))
        self.assertGreater(right, 100)

    def test_weights_exchanged_by_one(self):
        draw = random.Random(12)
        for _ in range(100):
            matrix = drawn_matrix(draw, draw.randint(1, 4), draw.randint(1, 4), -3, 3)
            value, columns, rows = settled(matrix)
            for at in range(len(columns)):
                other = value, columns[:at] + (columns[at] + 1,) + columns[at + 1:], rows
                self.assertIs(is_settled(matrix, other), settles(matrix, other))
            for at in range(len(rows)):
                other = value, columns, rows[:at] + (rows[at] + 1,) + rows[at + 1:]
                self.assertIs(is_settled(matrix, other), settles(matrix, other))
            for top in (value[0] - 1, value[0] + 1):
                if gcd(top, value[1]) == 1:
                    self.assertIs(is_settled(matrix, ((top, value[1]), columns, rows)), False)
