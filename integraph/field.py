"""The field of the rational numbers, and fields of rational functions over another field."""

from integraph.clearing import (
    cleared, element_of, in_lowest_terms, ratio_of, ratio_power, ratio_product, ratio_sum)
from integraph.divisor import pgcd
from integraph.errors import ZeroDivisor
from integraph.polynomial import constant, is_polynomial, pneg
from integraph.rational import ONE, ZERO, is_rational, radd, rdiv, rinv, rmul, rneg, rpow, rsub
from integraph.wholes import wscale


class Rationals:
    """The field of level 0."""

    def level(self):
        """Returns the level."""
        return 0

    def zero(self):
        """Returns the zero."""
        return ZERO

    def one(self):
        """Returns the one."""
        return ONE

    def is_zero(self, a):
        """Tells whether a is zero."""
        return a == ZERO

    def add(self, a, b):
        """Returns the sum."""
        return radd(a, b)

    def subtract(self, a, b):
        """Returns the difference."""
        return rsub(a, b)

    def negative(self, a):
        """Returns the negative."""
        return rneg(a)

    def multiply(self, a, b):
        """Returns the product."""
        return rmul(a, b)

    def inverse(self, a):
        """Returns the inverse."""
        return rinv(a)

    def divide(self, a, b):
        """Returns a times the inverse of b."""
        return rdiv(a, b)

    def power(self, a, k):
        """Returns a to the power of the integer k."""
        return rpow(a, k)

    def rational(self, q):
        """Returns the element that is the rational q."""
        return q

    def as_rational(self, a):
        """Returns the rational that a is."""
        return a

    def is_element(self, value):
        """Tells whether a value is an element; every value may be asked about."""
        return is_rational(value)


class RationalFunctions:
    """The field of the rational functions in one variable over the field base."""

    def __init__(self, base):
        self.base = base

    def level(self):
        """Returns the level."""
        return self.base.level() + 1

    def zero(self):
        """Returns the zero."""
        return (), (self.base.one(),)

    def one(self):
        """Returns the one."""
        return (self.base.one(),), (self.base.one(),)

    def is_zero(self, a):
        """Tells whether a is zero."""
        return len(a[0]) == 0

    def add(self, a, b):
        """Returns the sum."""
        n = self.level()
        return element_of(n, ratio_sum(n, ratio_of(n, a), ratio_of(n, b)))

    def subtract(self, a, b):
        """Returns the difference."""
        return self.add(a, self.negative(b))

    def negative(self, a):
        """Returns the negative."""
        num, den = a
        return pneg(self.base, num), den

    def multiply(self, a, b):
        """Returns the product."""
        n = self.level()
        return element_of(n, ratio_product(n, ratio_of(n, a), ratio_of(n, b)))

    def inverse(self, a):
        """Returns the inverse."""
        return self.divide(self.one(), a)

    def divide(self, a, b):
        """Returns a times the inverse of b."""
        if self.is_zero(b):
            raise ZeroDivisor("the inverse of zero")
        n = self.level()
        top, bottom = ratio_of(n, b)
        return element_of(n, ratio_product(n, ratio_of(n, a), (bottom, top)))

    def power(self, a, k):
        """Returns a to the power of the integer k."""
        if k < 0:
            return self.power(self.inverse(a), -k)
        n = self.level()
        return element_of(n, ratio_power(n, ratio_of(n, a), k))

    def rational(self, q):
        """Returns the element that is the rational q."""
        return self.lift(self.base.rational(q))

    def as_rational(self, a):
        """Returns the rational that a is, or None."""
        e = self.lowered(a)
        if e is None:
            return None
        return self.base.as_rational(e)

    def is_element(self, value):
        """Tells whether a value is an element; every value may be asked about."""
        if not isinstance(value, tuple) or len(value) != 2:
            return False
        num, den = value
        if not is_polynomial(self.base, num) or not is_polynomial(self.base, den):
            return False
        one = self.base.one()
        # The greatest common divisor with a zero numerator is the denominator itself.
        return len(den) > 0 and den[-1] == one and pgcd(self.base, num, den) == (one,)

    def variable(self):
        """Returns the variable."""
        return (self.base.zero(), self.base.one()), (self.base.one(),)

    def fraction(self, p, q):
        """Returns p / q for two polynomials over the base."""
        if len(q) == 0:
            raise ZeroDivisor("a fraction with the denominator zero")
        n = self.level()
        top, top_divisor = cleared(n - 1, p)
        bottom, bottom_divisor = cleared(n - 1, q)
        top = wscale(n, top, bottom_divisor)
        bottom = wscale(n, bottom, top_divisor)
        return element_of(n, in_lowest_terms(n, top, bottom))

    def lift(self, e):
        """Returns the element that is the element e of the base."""
        return constant(self.base, e), (self.base.one(),)

    def lowered(self, a):
        """Returns the element of the base that a is, or None."""
        num, den = a
        if len(num) > 1 or len(den) > 1:
            return None
        if len(num) == 0:
            return self.base.zero()
        return num[0]


def field_of(n):
    """Returns the field of level n."""
    field = Rationals()
    for _ in range(n):
        field = RationalFunctions(field)
    return field
