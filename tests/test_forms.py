"""The forms of certificates (chapter 14)."""

import unittest

from integraph.forms import has_shape, is_element_tuple, is_index_tuple
from tests.algebra import EXP, LOG, TOWERS, X, el
from tests.helpers import ODD_VALUES, PureCase, nested

DEEP = (nested(60, tuple), nested(60, list))


class IndexTuples(PureCase):
    def test_values_that_fit(self):
        for count in range(5):
            for chosen in range(2 ** count):
                value = tuple(i for i in range(count) if chosen & 2 ** i)
                self.assert_true(self.pure(is_index_tuple, value, count))
        self.assert_true(is_index_tuple((0, 5, 99), 100))

    def test_values_out_of_range(self):
        for value, count in (((0,), 0), ((1,), 1), ((0, 1, 2), 2), ((-1,), 3), ((-1, 0), 3),
                             ((3,), 3), ((10 ** 40,), 5), ((-10 ** 40,), 5)):
            self.assert_false(self.pure(is_index_tuple, value, count))
            self.assert_false(is_index_tuple(value[::-1] + value, count))

    def test_orders(self):
        for value in ((1, 0), (0, 0), (0, 2, 1), (0, 1, 1), (2, 1, 0), (1, 1), (0, 1, 0)):
            self.assert_false(self.pure(is_index_tuple, value, 4))

    def test_the_empty_tuple(self):
        for count in (0, 1, 7):
            self.assert_true(self.pure(is_index_tuple, (), count))

    def test_other_values(self):
        for value in ((True,), (False,), (False, True), (0, True), (None,), ("0",), ("",), ((),),
                      ((0,),), [0, 1], [], 0, 1, True, None, "", "01", (0, None), ([0],),
                      ((0, 1), 2)) + DEEP:
            self.assert_false(self.pure(is_index_tuple, value, 3))
        for value in ODD_VALUES:
            if value not in ((), (1,), (1, 2), (0, 2)) or isinstance(value, list):
                self.assert_false(self.pure(is_index_tuple, value, 3))


class ElementTuples(PureCase):
    def test_values_that_fit(self):
        for t in TOWERS:
            for n in range(t.height() + 1):
                items = [t.field(n).zero(), t.field(n).one(), t.field(n).rational((-3, 7))]
                items += [el(n, text) for text in (["1/(x^2+1)", "x"] if n else ["1/2"])]
                for size in range(len(items) + 1):
                    self.assert_true(self.pure(is_element_tuple, t, n, tuple(items[:size])))
                self.assert_true(is_element_tuple(t, n, (items[0], items[0])))

    def test_elements_of_another_level(self):
        for t, n in ((X, 1), (LOG, 2), (EXP, 2), (TOWERS[5], 3), (TOWERS[-1], 4)):
            for other in range(t.height() + 2):
                e = el(other, "x") if other else (5, 1)
                for value in ((e,), (t.field(n).one(), e), (e, t.field(n).one())):
                    self.assertIs(is_element_tuple(t, n, value), other == n)

    def test_other_values(self):
        one = el(1, "1")
        for value in ([one], one, (one, None), (list(one),), ((one,),), (one, True), ("x",),
                      ((((1, 1), (0, 1)), ((1, 1),)),), ((((True, 1),), ((1, 1),)),),
                      (one[0],), (one, ()), None, True, 0, "", []) + DEEP:
            self.assert_false(self.pure(is_element_tuple, X, 1, value))
        for value in ODD_VALUES:
            if value != () or isinstance(value, list):
                self.assert_false(self.pure(is_element_tuple, X, 1, value))
        self.assert_true(is_element_tuple(X, 0, ((1, 2), (0, 1))))
        self.assert_false(is_element_tuple(X, 0, ((2, 2),)))
        self.assert_false(is_element_tuple(X, 0, [(1, 2)]))
        self.assert_false(is_element_tuple(X, 0, ([1, 2],)))


class Shapes(PureCase):
    def test_values_that_fit(self):
        for value in (("part",), ("part", 1), ("part", (), None), ("part", "part", [], True)):
            self.assert_true(self.pure(has_shape, value, "part", len(value)))

    def test_other_words_and_lengths(self):
        value = ("part", 1, 2)
        for count in (0, 1, 2, 4, 100, -1):
            self.assert_false(self.pure(has_shape, value, "part", count))
        for word in ("parts", "par", "", "Part", "lead", "part "):
            self.assert_false(self.pure(has_shape, value, word, 3))

    def test_a_count_of_0(self):
        for value in ((), ("part",), [], None, "part", 0):
            self.assert_false(self.pure(has_shape, value, "part", 0))

    def test_other_values(self):
        for value in (["part", 1], "part", ("p", "a"), (("part",), 1), (["part"], 1), (1, "part"),
                      (None, 1), (True, 1), ((), 1), 2, None, True, ["part"], ("part", 1)[1:],
                      {}) + DEEP + ODD_VALUES:
            self.assert_false(self.pure(has_shape, value, "part", 2))
            self.assert_false(has_shape(value, "part", 1))
        self.assert_true(has_shape(("", 1), "", 2))


if __name__ == "__main__":
    unittest.main()
