"""Chapter 2: linear equations."""

import random
import unittest
from fractions import Fraction

from integraph.linear import (
    basis, combination, contains, dot, echelon, kernel, meet, primitive, shows_none, solve,
    span_both, times)
from tests.helpers import ODD_VALUES, PureCase, nested

ZERO, ONE = (0, 1), (1, 1)
BIG = 10 ** 400 + 7


def q(n, d=1):
    value = Fraction(n, d)
    return (value.numerator, value.denominator)


def v(*numbers):
    """Returns the vector of these numbers."""
    return tuple(q(n) for n in numbers)


def fractions(vector):
    return [Fraction(*item) for item in vector]


def product(a, b):
    return sum((s * t for s, t in zip(fractions(a), fractions(b))), Fraction(0))


def mixture(rows, width, y):
    """The sum of the rows multiplied by the items of y, by the definition."""
    total = [Fraction(0)] * width
    for row, factor in zip(rows, y):
        total = [s + Fraction(*factor) * t for s, t in zip(total, fractions(row))]
    return tuple(q(t) for t in total)


def chance_matrix(chance, rows, width, size=3):
    return tuple(tuple(q(chance.randint(-size, size), chance.randint(1, 2)) for _ in range(width))
                 for _ in range(rows))


def matrices():
    """Returns pairs of rows and a width: the edges first, then many small ones."""
    found = [((), 0), ((), 1), ((), 4), (((),), 0), (((), (), ()), 0),
             ((v(0, 0, 0),), 3), ((v(0, 0), v(0, 0)), 2), ((v(1, 2), v(1, 2), v(1, 2)), 2),
             ((v(0, 0, 1), v(0, 0, 0), v(0, 2, 0)), 3), ((v(5),), 1), ((v(0),), 1),
             ((v(0, 1), v(1, 0)), 2), ((v(2, 4, 6), v(1, 2, 3), v(0, 0, 1)), 3)]
    chance = random.Random(5)
    for height in range(1, 5):
        for width in range(1, 6):
            for size in (1, 4):
                rows = chance_matrix(chance, height, width, size)
                found.append((rows, width))
                # Equal rows and rows that depend on others.
                found.append((rows + rows[:1] + (mixture(rows, width, rows[0]),), width))
    return found


def big_matrix():
    return ((q(BIG), q(1, BIG), q(-BIG, 3)), (q(BIG - 1), ONE, ZERO), (ZERO, q(2, BIG), q(BIG)))


class Products(PureCase):
    def test_dot(self):
        self.assertEqual(self.pure(dot, v(1, 2, 3), v(4, 5, 6)), q(32))
        self.assertEqual(self.pure(dot, (q(1, 2), q(1, 3)), (q(1, 2), q(-3, 4))), ZERO)
        self.assertEqual(dot((q(BIG),), (q(1, BIG),)), ONE)

    def test_the_product_of_vectors_without_items_is_zero(self):
        self.assertEqual(self.pure(dot, (), ()), ZERO)

    def test_times(self):
        for rows, width in matrices():
            x = tuple(q(k - 1, 2) for k in range(width))
            found = self.pure(times, rows, x)
            self.assertEqual(found, tuple(q(product(row, x)) for row in rows))

    def test_times_without_rows(self):
        self.assertEqual(times((), v(1, 2)), ())
        self.assertEqual(times(((), ()), ()), (ZERO, ZERO))

    def test_combination(self):
        for rows, width in matrices():
            y = tuple(q(2 * k - 1, 3) for k in range(len(rows)))
            self.assertEqual(self.pure(combination, rows, width, y), mixture(rows, width, y))

    def test_combination_of_no_rows_has_the_width(self):
        self.assertEqual(combination((), 3, ()), (ZERO, ZERO, ZERO))
        self.assertEqual(combination((), 0, ()), ())
        self.assertEqual(combination(((), ()), 0, v(1, 2)), ())

    def test_combination_with_zeros(self):
        self.assertEqual(combination((v(1, 2), v(3, 4)), 2, v(0, 0)), v(0, 0))


class EchelonForm(PureCase):
    def check_form(self, rows, pivots, width):
        self.assertEqual(len(rows), len(pivots))
        self.assertEqual(list(pivots), sorted(set(pivots)))
        for row, pivot in zip(rows, pivots):
            self.assertEqual(len(row), width)
            first = [at for at in range(width) if row[at] != ZERO][0]
            self.assertEqual((first, row[first]), (pivot, ONE))
        for pivot in pivots:
            self.assertEqual([row[pivot] for row in rows].count(ZERO), len(rows) - 1)

    def check_inside(self, vector, rows, pivots, width):
        """A vector of the span is the sum of the rows with its own items at the pivots."""
        y = tuple(vector[pivot] for pivot in pivots)
        self.assertEqual(mixture(rows, width, y), vector)

    def test_example_of_the_document(self):
        self.assertEqual(echelon((((0, 1), (2, 1)), ((1, 1), (1, 1))), 2),
                         ((((1, 1), (0, 1)), ((0, 1), (1, 1))), (0, 1)))

    def test_form(self):
        for rows, width in matrices() + [(big_matrix(), 3)]:
            reduced, pivots = self.pure(echelon, rows, width)
            self.check_form(reduced, pivots, width)

    def test_the_rows_span_the_same_space(self):
        for rows, width in matrices() + [(big_matrix(), 3)]:
            reduced, pivots = echelon(rows, width)
            for row in rows:
                self.check_inside(row, reduced, pivots, width)
            # As many dimensions as the rows have: no row can be missing above.
            self.assertEqual(len(reduced), rank(rows, width))

    def test_there_is_only_one_form(self):
        chance = random.Random(8)
        for rows, width in matrices():
            expected = echelon(rows, width)
            others = list(rows)
            chance.shuffle(others)
            others = [tuple(q(-3 * Fraction(*item)) for item in row) for row in others]
            for at in range(1, len(others)):
                both = (others[at], others[at - 1])
                others[at] = mixture(both, width, (ONE, q(chance.randint(-2, 2))))
            others.append((ZERO,) * width)
            others.extend(others[:1])
            self.assertEqual(self.pure(echelon, tuple(others), width), expected)

    def test_the_form_of_a_form_is_itself(self):
        for rows, width in matrices():
            reduced, pivots = echelon(rows, width)
            self.assertEqual(echelon(reduced, width), (reduced, pivots))

    def test_edges(self):
        self.assertEqual(echelon((), 0), ((), ()))
        self.assertEqual(echelon((), 5), ((), ()))
        self.assertEqual(echelon(((), ()), 0), ((), ()))
        self.assertEqual(echelon((v(0, 0), v(0, 0)), 2), ((), ()))
        self.assertEqual(echelon((v(0, 3), v(0, 3)), 2), ((v(0, 1),), (1,)))

    def test_many_rows(self):
        rows = tuple(tuple(q(1, i + j + 1) for j in range(12)) for i in range(14))
        reduced, pivots = echelon(rows, 12)
        self.assertEqual(pivots, tuple(range(12)))
        for at in range(12):
            self.assertEqual(reduced[at], (ZERO,) * at + (ONE,) + (ZERO,) * (11 - at))


def rank(rows, width):
    """The number of independent rows, by another elimination: columns from the right."""
    left = [fractions(row) for row in rows]
    found = 0
    for column in reversed(range(width)):
        chosen = [row for row in left if row[column] != 0]
        if chosen:
            first = chosen[-1]
            left.remove(first)
            left = [[s - row[column] / first[column] * t for s, t in zip(row, first)]
                    for row in left]
            found += 1
    return found


class Kernels(PureCase):
    def test_the_vectors_of_the_free_columns(self):
        for rows, width in matrices() + [(big_matrix()[:2], 3)]:
            _, pivots = echelon(rows, width)
            free = [column for column in range(width) if column not in pivots]
            found = self.pure(kernel, rows, width)
            self.assertEqual(len(found), len(free))
            for vector, column in zip(found, free):
                self.assertEqual(len(vector), width)
                self.assertEqual([vector[k] for k in free],
                                 [ONE if k == column else ZERO for k in free])
                for row in rows:
                    self.assertEqual(product(row, vector), 0)

    def test_known_kernels(self):
        self.assertEqual(kernel((v(1, 2, 3),), 3), (v(-2, 1, 0), v(-3, 0, 1)))
        self.assertEqual(kernel((v(0, 2, 4),), 3), (v(1, 0, 0), v(0, -2, 1)))

    def test_edges(self):
        self.assertEqual(kernel((), 0), ())
        self.assertEqual(kernel(((),), 0), ())
        self.assertEqual(kernel((), 2), (v(1, 0), v(0, 1)))
        self.assertEqual(kernel((v(0, 0),), 2), (v(1, 0), v(0, 1)))
        self.assertEqual(kernel((v(1, 0), v(0, 1)), 2), ())


class Systems(PureCase):
    def check_solution(self, rows, width, right, x):
        self.assertEqual(len(x), width)
        for row, item in zip(rows, right):
            self.assertEqual(product(row, x), Fraction(*item))
        _, pivots = echelon(rows, width)
        for column in range(width):
            if column not in pivots:
                self.assertEqual(x[column], ZERO)

    def check_none(self, rows, width, right, y):
        self.assertEqual(len(y), len(rows))
        self.assertEqual(mixture(rows, width, y), (ZERO,) * width)
        self.assertEqual(product(y, right), 1)
        self.assert_true(self.pure(shows_none, rows, width, right, y))

    def test_example_of_the_document(self):
        self.assertEqual(solve((((1, 1),), ((2, 1),)), 1, ((3, 1), (6, 1))),
                         ("solution", ((3, 1),)))

    def test_systems_with_a_solution(self):
        for rows, width in matrices() + [(big_matrix(), 3)]:
            x = tuple(q(3 - 2 * k, k + 1) for k in range(width))
            right = tuple(q(product(row, x)) for row in rows)
            kind, found = self.pure(solve, rows, width, right)
            self.assertEqual(kind, "solution")
            self.check_solution(rows, width, right, found)

    def test_systems_of_both_kinds(self):
        seen = set()
        chance = random.Random(11)
        for rows, width in matrices():
            for _ in range(3):
                right = tuple(q(chance.randint(-2, 2), chance.randint(1, 3)) for _ in rows)
                kind, found = self.pure(solve, rows, width, right)
                augmented = tuple(row + (item,) for row, item in zip(rows, right))
                solvable = rank(rows, width) == rank(augmented, width + 1)
                self.assertEqual(kind, "solution" if solvable else "none")
                seen.add(kind)
                if solvable:
                    self.check_solution(rows, width, right, found)
                else:
                    self.check_none(rows, width, right, found)
        self.assertEqual(seen, {"solution", "none"})

    def test_systems_without_rows(self):
        self.assertEqual(solve((), 0, ()), ("solution", ()))
        self.assertEqual(solve((), 3, ()), ("solution", v(0, 0, 0)))

    def test_systems_of_the_width_zero(self):
        self.assertEqual(solve(((), ()), 0, v(0, 0)), ("solution", ()))
        kind, y = solve(((), ()), 0, v(0, 5))
        self.assertEqual(kind, "none")
        self.check_none(((), ()), 0, v(0, 5), y)

    def test_rows_of_zeros(self):
        rows = (v(0, 0), v(1, 1), v(0, 0))
        self.assertEqual(solve(rows, 2, v(0, 4, 0)), ("solution", v(4, 0)))
        for right in (v(1, 4, 0), v(0, 4, -3), v(2, 0, 2)):
            kind, y = solve(rows, 2, right)
            self.assertEqual(kind, "none")
            self.check_none(rows, 2, right, y)

    def test_equal_rows(self):
        rows = (v(1, 2), v(1, 2))
        self.assertEqual(solve(rows, 2, v(3, 3)), ("solution", v(3, 0)))
        kind, y = solve(rows, 2, v(3, 4))
        self.assertEqual(kind, "none")
        self.check_none(rows, 2, v(3, 4), y)

    def test_zeros_in_free_columns(self):
        self.assertEqual(solve((v(0, 2, 4, 0), v(0, 0, 0, 3)), 4, v(6, 9)),
                         ("solution", v(0, 3, 0, 3)))

    def test_large_numbers(self):
        rows = big_matrix()[:2] + (tuple(q(2 * Fraction(*item)) for item in big_matrix()[0]),)
        kind, y = solve(rows, 3, (q(BIG), ONE, ZERO))
        self.assertEqual(kind, "none")
        self.check_none(rows, 3, (q(BIG), ONE, ZERO), y)
        kind, x = solve(rows, 3, (q(BIG, 2), ONE, q(BIG)))
        self.assertEqual(kind, "solution")
        self.check_solution(rows, 3, (q(BIG, 2), ONE, q(BIG)), x)


class NoSolution(PureCase):
    ROWS = (v(1, 2), v(2, 4), v(1, 1))
    RIGHT = v(3, 7, 5)
    RIGHT_ONE = v(-2, 1, 0)

    def shown(self, y):
        return self.pure(shows_none, self.ROWS, 2, self.RIGHT, y)

    def test_a_right_one(self):
        self.assert_true(self.shown(self.RIGHT_ONE))

    def test_one_item_changed(self):
        for at in range(3):
            for item in (q(5), q(-2, 3), ZERO if self.RIGHT_ONE[at] != ZERO else ONE):
                changed = self.RIGHT_ONE[:at] + (item,) + self.RIGHT_ONE[at + 1:]
                self.assert_false(self.shown(changed))

    def test_a_product_other_than_one(self):
        for factor in (2, -1, 0, Fraction(1, 2)):
            y = tuple(q(factor * Fraction(*item)) for item in self.RIGHT_ONE)
            self.assert_false(self.shown(y))

    def test_a_combination_that_is_not_zero(self):
        # The product with the right side is 1 for each of these.
        for y in ((q(1, 3), ZERO, ZERO), (ZERO, q(1, 7), ZERO), (ZERO, ZERO, q(1, 5)),
                  v(2, 0, -1), (q(-2), q(1, 7), q(6, 5))):
            self.assertEqual(product(y, self.RIGHT), 1)
            self.assert_false(self.shown(y))

    def test_wrong_lengths(self):
        self.assert_false(self.shown(self.RIGHT_ONE[:2]))
        self.assert_false(self.shown(self.RIGHT_ONE + (ZERO,)))
        self.assert_false(self.shown(()))

    def test_lists(self):
        self.assert_false(self.shown(list(self.RIGHT_ONE)))
        self.assert_false(self.shown(tuple(list(item) for item in self.RIGHT_ONE)))
        self.assert_false(self.shown([list(item) for item in self.RIGHT_ONE]))

    def test_items_that_are_no_rationals(self):
        for item in ODD_VALUES:
            self.assert_false(self.shown((item, ONE, ZERO)))
            self.assert_false(self.shown((q(-2), ONE, item)))
        self.assert_false(self.shown(((-4, 2), ONE, ZERO)))
        self.assert_false(self.shown((q(-2), (True, 1), ZERO)))
        self.assert_false(self.shown((q(-2), (1, True), ZERO)))
        self.assert_false(self.shown((q(-2), ONE, (False, 1))))
        self.assert_false(self.shown((-2, 1, 0)))

    def test_every_other_value(self):
        for value in ODD_VALUES:
            self.assert_false(self.shown(value))
        for outer in (tuple, list):
            self.assert_false(self.shown(nested(60, outer)))
            self.assert_false(self.shown((nested(58, outer), ONE, ZERO)))

    def test_systems_without_rows_are_never_shown(self):
        self.assert_false(shows_none((), 2, (), ()))
        for value in ODD_VALUES:
            self.assert_false(self.pure(shows_none, (), 0, (), value))

    def test_systems_with_a_solution_are_never_shown(self):
        for y in (v(-2, 1), v(0, 0), v(1, 0), (q(1, 3), ZERO)):
            self.assert_false(self.pure(shows_none, (v(1, 2), v(2, 4)), 2, v(3, 6), y))

    def test_the_width_zero(self):
        self.assert_true(shows_none(((), ()), 0, v(0, 5), (q(9), q(1, 5))))
        self.assert_false(shows_none(((), ()), 0, v(0, 5), (q(9), ONE)))

    def test_large_numbers(self):
        rows, right = ((q(BIG),), (q(BIG, 3),)), (q(BIG), q(BIG))
        y = (q(-1, 2 * BIG), q(3, 2 * BIG))
        self.assert_true(shows_none(rows, 1, right, y))
        self.assert_false(shows_none(rows, 1, right, (y[0], q(3, 2 * BIG + 1))))


class Subspaces(PureCase):
    def spaces(self, length):
        chance = random.Random(length)
        found = [()]
        for count in range(1, length + 2):
            for size in (1, 2):
                found.append(basis(chance_matrix(chance, count, length, size), length))
        return found

    def test_equal_subspaces_have_equal_bases(self):
        self.assertEqual(self.pure(basis, (v(1, 1, 0), v(0, 1, 1)), 3),
                         (v(1, 0, -1), v(0, 1, 1)))
        self.assertEqual(basis((v(1, 2, 1), v(1, 0, -1), v(3, 3, 0)), 3),
                         (v(1, 0, -1), v(0, 1, 1)))
        self.assertEqual(basis((v(2, 3),), 2), basis((v(-4, -6), v(0, 0)), 2))

    def test_a_basis_is_the_reduced_echelon_form(self):
        for rows, width in matrices():
            self.assertEqual(self.pure(basis, rows, width), echelon(rows, width)[0])

    def test_the_zero_subspace(self):
        for vectors, length in (((), 0), ((), 3), ((v(0, 0),), 2), (((), ()), 0)):
            self.assertEqual(self.pure(basis, vectors, length), ())

    def test_contains(self):
        for length in range(1, 5):
            for space in self.spaces(length):
                for vector in chance_matrix(random.Random(3), 6, length, 1):
                    inside = rank(space + (vector,), length) == len(space)
                    self.assertIs(self.pure(contains, space, length, vector), inside)
                for vector in space:
                    self.assert_true(contains(space, length, vector))
                y = tuple(q(2 * k + 1, 7) for k in range(len(space)))
                self.assert_true(contains(space, length, mixture(space, length, y)))

    def test_the_zero_vector_is_in_every_subspace(self):
        self.assert_true(contains((), 2, v(0, 0)))
        self.assert_true(contains((v(1, 1),), 2, v(0, 0)))
        self.assert_true(contains((), 0, ()))

    def test_the_zero_subspace_contains_nothing_else(self):
        self.assert_false(contains((), 2, v(0, 1)))
        self.assert_false(contains((), 1, (q(1, BIG),)))

    def test_span_both(self):
        for length in range(1, 5):
            for one in self.spaces(length):
                for two in self.spaces(length):
                    found = self.pure(span_both, one, two, length)
                    self.assertEqual(found, basis(one + two, length))
                    for vector in one + two:
                        self.assert_true(contains(found, length, vector))
                    self.assertEqual(len(found), rank(one + two, length))

    def test_meet(self):
        for length in range(1, 5):
            for one in self.spaces(length):
                for two in self.spaces(length):
                    found = self.pure(meet, one, two, length)
                    self.assertEqual(found, basis(found, length))
                    for vector in found:
                        self.assert_true(contains(one, length, vector))
                        self.assert_true(contains(two, length, vector))
                    # The dimensions of sum and meet are together those of both.
                    self.assertEqual(len(found) + rank(one + two, length), len(one) + len(two))

    def test_known_meets(self):
        one, two = (v(1, 0, 0), v(0, 1, 0)), (v(0, 1, 0), v(0, 0, 1))
        self.assertEqual(meet(one, two, 3), (v(0, 1, 0),))
        self.assertEqual(meet((v(1, 2),), (v(1, 3),), 2), ())
        self.assertEqual(meet((v(1, 2),), (v(1, 2),), 2), (v(1, 2),))
        self.assertEqual(meet((v(1, 0), v(0, 1)), (v(1, BIG),), 2), (v(1, BIG),))

    def test_meet_and_span_of_the_zero_subspace(self):
        space = (v(1, 0, 2), v(0, 1, 3))
        self.assertEqual(meet((), space, 3), ())
        self.assertEqual(meet(space, (), 3), ())
        self.assertEqual(span_both((), space, 3), space)
        self.assertEqual(span_both(space, (), 3), space)
        self.assertEqual((meet((), (), 0), span_both((), (), 0)), ((), ()))
        self.assertEqual((meet((), (), 2), span_both((), (), 2)), ((), ()))


class Primitive(PureCase):
    def test_known_vectors(self):
        for vector, expected in (
                ((q(1, 2), q(1, 3)), v(3, 2)), (v(4, 6), v(2, 3)), (v(-4, 6), v(-2, 3)),
                ((q(-1, 2), ZERO), v(-1, 0)), (v(0, 5), v(0, 1)), (v(7), v(1)), (v(-7), v(-1)),
                ((q(2, 3), q(4, 9)), v(3, 2)), ((q(6, 5), q(9, 10)), v(4, 3)), (v(1, 0), v(1, 0)),
                ((q(BIG), q(BIG, 2)), v(2, 1)), ((q(1, BIG), q(-1, BIG + 1)), v(BIG + 1, -BIG))):
            self.assertEqual(self.pure(primitive, vector), expected)

    def test_zero_vectors_stay(self):
        for length in range(4):
            vector = (ZERO,) * length
            self.assertEqual(self.pure(primitive, vector), vector)

    def test_multiples_by_positive_rationals_have_the_same(self):
        vector = v(6, -10, 0, 15)
        for factor in (Fraction(1, 30), Fraction(7, 4), Fraction(12), Fraction(BIG, 3)):
            multiple = tuple(q(factor * Fraction(*item)) for item in vector)
            self.assertEqual(primitive(multiple), vector)
            self.assertEqual(primitive(tuple((-n, d) for n, d in multiple)), v(-6, 10, 0, -15))


if __name__ == "__main__":
    unittest.main()
