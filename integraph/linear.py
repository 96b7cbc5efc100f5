"""Linear equations over the rationals, by elimination."""

from math import gcd, lcm

from integraph.rational import ONE, ZERO, is_rational, radd, rational, rinv, rmul, rneg


def dot(a, b):
    """Returns the product of two vectors of one length."""
    total = ZERO
    for one, two in zip(a, b):
        total = radd(total, rmul(one, two))
    return total


def times(rows, x):
    """Returns the vector of the products of the rows with x."""
    return tuple([dot(row, x) for row in rows])


def combination(rows, width, y):
    """Returns the sum of the rows multiplied by the items of y."""
    total = _zero_vector(width)
    for row, factor in zip(rows, y):
        total = _plus_multiple(total, row, factor)
    return total


def _zero_vector(length):
    return (ZERO,) * length


def _plus_multiple(vector, row, factor):
    if factor == ZERO:
        return vector
    return tuple([radd(item, rmul(other, factor)) for item, other in zip(vector, row)])


def _scaled(vector, factor):
    return tuple([rmul(item, factor) for item in vector])


def _cleared(rows, row, column):
    """Returns the rows less the multiples of a row that has 1 in the column."""
    return [_plus_multiple(other, row, rneg(other[column])) for other in rows]


def _first_with(rows, column):
    """Returns the index of the first row that is not zero in the column, or None."""
    for at, row in enumerate(rows):
        if row[column] != ZERO:
            return at
    return None


def _eliminate(rows, width):
    """Returns the chosen rows, their pivots, and the rows that were not chosen.

    Only the first columns, as many as the width tells, are searched for pivots. What the
    rows have behind them is carried along.
    """
    chosen = []
    pivots = []
    left = list(rows)
    for column in range(width):
        at = _first_with(left, column)
        if at is None:
            continue
        row = _scaled(left[at], rinv(left[at][column]))
        left = _cleared(left[:at] + left[at + 1:], row, column)
        chosen = _cleared(chosen, row, column)
        chosen.append(row)
        pivots.append(column)
    return chosen, pivots, left


def echelon(rows, width):
    """Returns the rows of the reduced echelon form, and the tuple of the pivots."""
    chosen, pivots, _ = _eliminate(rows, width)
    return tuple(chosen), tuple(pivots)


def kernel(rows, width):
    """Returns, for each free column, the vector of the kernel with 1 there."""
    reduced, pivots = echelon(rows, width)
    free = [column for column in range(width) if column not in pivots]
    return tuple([_free_vector(reduced, pivots, width, column) for column in free])


def _free_vector(reduced, pivots, width, column):
    vector = list(_zero_vector(width))
    vector[column] = ONE
    for row, pivot in zip(reduced, pivots):
        vector[pivot] = rneg(row[column])
    return tuple(vector)


def solve(rows, width, right):
    """Returns a solution with zeros in all free columns, or what shows that there is none."""
    chosen, pivots, left = _eliminate(_with_history(rows, right), width)
    for row in left:
        if row[width] != ZERO:
            return ("none", _scaled(row[width + 1:], rinv(row[width])))
    x = list(_zero_vector(width))
    for row, pivot in zip(chosen, pivots):
        x[pivot] = row[width]
    return ("solution", tuple(x))


def _with_history(rows, right):
    """Returns the rows, each with its right side and the combination of the rows that it is."""
    return [row + (right[at],) + _unit(len(rows), at) for at, row in enumerate(rows)]


def _unit(length, at):
    return _zero_vector(at) + (ONE,) + _zero_vector(length - at - 1)


def shows_none(rows, width, right, y):
    """Tells whether y shows that the system has no solution; y may be any value."""
    if not isinstance(y, tuple) or len(y) != len(rows):
        return False
    for item in y:
        if not is_rational(item):
            return False
    return combination(rows, width, y) == _zero_vector(width) and dot(y, right) == ONE


def basis(vectors, length):
    """Returns the basis of the subspace that the vectors span."""
    reduced, _ = echelon(vectors, length)
    return reduced


def contains(space, length, v):
    """Tells whether the vector v is in the subspace with this basis."""
    return basis(space + (v,), length) == space


def span_both(one, two, length):
    """Returns the basis of the sums of a vector of the one subspace and one of the other."""
    return basis(one + two, length)


def meet(one, two, length):
    """Returns the basis of the vectors that are in both subspaces."""
    # A subspace is the kernel of its kernel, so both kernels together describe the meet.
    conditions = kernel(one, length) + kernel(two, length)
    return basis(kernel(conditions, length), length)


def primitive(v):
    """Returns the multiple of v with integers that have no common divisor greater than 1."""
    bottom = 1
    for n, d in v:
        bottom = lcm(bottom, d)
    top = 0
    for n, d in v:
        top = gcd(top, n * (bottom // d))
    if top == 0:
        return v
    return _scaled(v, rational(bottom, top))
