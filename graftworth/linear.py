"""Matrices of numbers of a field: echelon forms, kernels, solutions and clashes."""
from math import gcd, lcm

from graftworth.errors import BadNumber, NotMatrix
from graftworth.numbers import ONE, ZERO, check_field, check_number, is_number, minus, number

MOST_ROWS = 300
MOST_COLUMNS = 400


def is_matrix(p, matrix):
    """Whether a list of lists of pairs of integers is a matrix of the field."""
    check_field(p)
    if len(matrix) > MOST_ROWS:
        return False
    columns = _columns_of(matrix)
    if columns > MOST_COLUMNS or any([len(row) != columns for row in matrix]):
        return False
    return all([is_number(p, x) for row in matrix for x in row])


def _columns_of(matrix):
    return len(matrix[0]) if matrix else 0


def _check_matrix(p, matrix):
    if not is_matrix(p, matrix):
        raise NotMatrix("the list is no matrix of the field")


def echelon(p, matrix):
    """The echelon form of a matrix."""
    _check_matrix(p, matrix)
    return echelon_rows(p, matrix)


def rank(p, matrix):
    """The number of the rows of the echelon form."""
    return len(echelon(p, matrix))


def kernel(p, matrix):
    """The list of the vectors of the basis of the kernel."""
    form = echelon(p, matrix)
    columns = _columns_of(matrix)
    leading = [leading_column(row) for row in form]
    found = []
    for free in range(columns):
        if free not in leading:
            vector = [ZERO] * columns
            vector[free] = ONE
            for lead, row in zip(leading, form):
                vector[lead] = minus(p, ZERO, row[free])
            found.append(vector)
    return found


def solution(p, matrix, right):
    """The vector that is taken to the list `right` and has 0 at all columns that are not leading, or None."""
    _check_system(p, matrix, right)
    return _solved(p, matrix, right)


def clash(p, matrix, right):
    """Numbers for the rows, with which the rows add up to 0 and the list `right` to 1, or None."""
    _check_system(p, matrix, right)
    columns = _columns_of(matrix)
    turned = [[row[column] for row in matrix] for column in range(columns)]
    return _solved(p, turned + [list(right)], [ZERO] * columns + [ONE])


def _check_system(p, matrix, right):
    _check_matrix(p, matrix)
    for x in right:
        check_number(p, x)
    if len(right) != len(matrix):
        raise BadNumber("there is not one number for each row")


def _solved(p, rows, right):
    """The solution for rows of numbers, however many, or None."""
    columns = _columns_of(rows)
    vector = [ZERO] * columns
    for row in echelon_rows(p, [[*row, x] for row, x in zip(rows, right)]):
        lead = leading_column(row)
        if lead == columns:
            return None
        vector[lead] = row[columns]
    return vector


def leading_column(row):
    """The index of the first entry that is not 0; there must be one."""
    column = 0
    while row[column] == ZERO:
        column += 1
    return column


def echelon_rows(p, rows):
    """The echelon form of rows of numbers, however many and however long.

    It is made of integers: rests, or for fractions multiples of the rows, which are kept without a common divisor.
    """
    made = {}
    for row in rows:
        _take_in(p, made, _whole_row(row))
    columns = sorted(list(made))
    for column in reversed(columns):
        row = made[column]
        for later in columns:
            if later > column and row[later] != 0:
                row = _without(p, row, later, made[later])
        made[column] = row
    return [[number(p, x, made[lead][lead]) for x in made[lead]] for lead in columns]


def _take_in(p, made, row):
    """Puts what is left of a row of integers into a dict of rows by their leading columns, if anything is left."""
    left = row
    for column in range(len(row)):
        if left[column] != 0:
            if column not in made:
                made[column] = left
                return
            left = _without(p, left, column, made[column])


def _whole_row(row):
    """A multiple of a row of numbers, as integers."""
    below = 1
    for x in row:
        below = lcm(below, x[1])
    return _shortened([x[0] * (below // x[1]) for x in row])


def _without(p, row, column, other):
    """A multiple of a row less such a multiple of another one that 0 comes to stand in a column."""
    common = gcd(row[column], other[column])
    many = other[column] // common
    less = row[column] // common
    if p > 0:
        return [(x * many - y * less) % p for x, y in zip(row, other)]
    return _shortened([x * many - y * less for x, y in zip(row, other)])


def _shortened(row):
    """A row of integers, divided by their greatest common divisor."""
    common = 0
    for x in row:
        common = gcd(common, x)
        if common == 1:
            return row
    return [x // common for x in row] if common > 0 else row
