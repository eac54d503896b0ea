"""Matrices, lists of rows, of what a ring computes with."""


def rows_of(vector, length):
    """The vector, read in rows of this length."""
    return [vector[at:at + length] for at in range(0, len(vector), length)]


def flat(matrix):
    """The rows one behind the other."""
    return [number for row in matrix for number in row]


def turned(matrix):
    """The matrix with its columns as rows."""
    return [list(column) for column in zip(*matrix)]


def sum_of(ring, numbers):
    """The sum of a list."""
    result = ring.zero()
    for number in numbers:
        result = ring.plus(result, number)
    return result


def sums(ring, one, other):
    """The vector of the sums of the elements of two vectors of one length."""
    return [ring.plus(a, b) for a, b in zip(one, other)]


def matrix_product(ring, left, right):
    """The matrix product of two matrices."""
    columns = turned(right)
    return [[_row_by_column(ring, row, column) for column in columns] for row in left]


def _row_by_column(ring, row, column):
    return sum_of(ring, [ring.times(a, b) for a, b in zip(row, column)])
