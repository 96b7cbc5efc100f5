"""Rational multiples of elements: a sum of them, or points that show that there is none."""

from integraph.field import field_of
from integraph.linear import basis, contains, dot, solve
from integraph.polynomial import pvalue
from integraph.rational import ZERO, is_rational, rdiv


def value(n, e, point):
    """Returns the value of an element of level n at a point, a rational, or None."""
    if n == 0:
        return e
    num, den = e
    top = _value_of_polynomial(n, num, point)
    bottom = _value_of_polynomial(n, den, point)
    if top is None or bottom is None or bottom == ZERO:
        return None
    return rdiv(top, bottom)


def _value_of_polynomial(n, p, point):
    coefficients = values_at(n - 1, p, point[:n - 1])
    if coefficients is None:
        return None
    return pvalue(field_of(0), coefficients, point[n - 1])


def values_at(n, items, point):
    """Returns the tuple of the values of elements of level n at a point, or None."""
    found = []
    for e in items:
        found.append(value(n, e, point))
        if found[-1] is None:
            return None
    return tuple(found)


def combination(n, items, target):
    """Returns ("sum", multiples) or ("apart", rows) for items and a target of level n."""
    search = Search(n, items, target)
    size = 0
    while True:
        for point in cube_points(n, size):
            found = search.result_with(point)
            if found is not None:
                return found
        size = size + 1


def cube_points(n, size):
    """Returns the points of n integers with this greatest absolute value, in ascending order."""
    found = [()]
    for _ in range(n):
        found = [point + (k,) for point in found for k in range(-size, size + 1)]
    found = [point for point in found if max([abs(k) for k in point], default=0) == size]
    return [tuple([(k, 1) for k in point]) for point in found]


class Search:
    """The equations that points give for the multiples of the items."""

    def __init__(self, n, items, target):
        self.n = n
        self.summands = items
        self.target = target
        self.points = []
        # The equations of which none follows from those before it: their places among the
        # points, their left and right sides, the space of the left sides, and their solution.
        self.places = []
        self.rows = ()
        self.right = ()
        self.space = ()
        self.multiples = (ZERO,) * len(items)
        self.tried = None

    def result_with(self, point):
        """Takes one point more and returns the result, or None if it is not yet decided."""
        values = values_at(self.n, self.summands + (self.target,), point)
        if values is None:
            return None
        self.points.append(point)
        row, right = values[:-1], values[-1]
        width = len(self.summands)
        if not contains(self.space, width, row):
            self.places.append(len(self.points) - 1)
            self.rows = self.rows + (row,)
            self.right = self.right + (right,)
            self.space = basis(self.rows, width)
            _, self.multiples = solve(self.rows, width, self.right)
        elif dot(row, self.multiples) != right:
            return self.apart(row, right)
        if self.multiples != self.tried and self.is_sum():
            return ("sum", self.multiples)
        self.tried = self.multiples
        return None

    def apart(self, row, right):
        """Returns the points with weights; the equation of the last one has made it plain."""
        _, found = solve(self.rows + (row,), len(row), self.right + (right,))
        weights = [ZERO] * len(self.points)
        # What elimination gives for all equations has 0 for those that follow from others.
        for place, weight in zip(self.places + [-1], found):
            weights[place] = weight
        return ("apart", tuple(zip(self.points, weights)))

    def is_sum(self):
        """Tells whether the target is the sum of the items with the multiples."""
        field = field_of(self.n)
        total = field.zero()
        for e, multiple in zip(self.summands, self.multiples):
            if multiple != ZERO:
                total = field.add(total, field.multiply(e, field.rational(multiple)))
        return total == self.target


def is_apart(n, items, target, rows):
    """Tells whether rows show that the target is no sum of multiples of the items."""
    if not isinstance(rows, tuple):
        return False
    for row in rows:
        if not _is_row(n, row):
            return False
    weights = [weight for _, weight in rows]
    table = [values_at(n, items + (target,), point) for point, _ in rows]
    for values in table:
        if values is None:
            return False
    for at in range(len(items)):
        if dot([values[at] for values in table], weights) != ZERO:
            return False
    return dot([values[-1] for values in table], weights) != ZERO


def _is_row(n, row):
    """Tells whether a value is a pair of a point of n rationals and a rational."""
    if not isinstance(row, tuple) or len(row) != 2:
        return False
    point, weight = row
    if not isinstance(point, tuple) or len(point) != n or not is_rational(weight):
        return False
    return all([is_rational(q) for q in point])
