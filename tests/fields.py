"""Small fields with the methods of integraph.field, made without the package's polynomials."""

from fractions import Fraction

from integraph.errors import ZeroDivisor


def is_pair_of_integers(value):
    return (isinstance(value, tuple) and len(value) == 2
            and all(isinstance(n, int) and not isinstance(n, bool) for n in value))


class SmallField:
    """What both fields derive from the other methods."""

    def __eq__(self, other):
        return type(self) is type(other) and vars(self) == vars(other)

    def divide(self, a, b):
        return self.multiply(a, self.inverse(b))

    def subtract(self, a, b):
        return self.add(a, self.negative(b))

    def is_zero(self, a):
        return a == self.zero()

    def power(self, a, k):
        result = self.one()
        for _ in range(abs(k)):
            result = self.multiply(result, a)
        return self.inverse(result) if k < 0 else result


class SmallRationals(SmallField):
    """The rationals."""

    def level(self):
        return 0

    def zero(self):
        return (0, 1)

    def one(self):
        return (1, 1)

    def _out(self, fraction):
        return (fraction.numerator, fraction.denominator)

    def add(self, a, b):
        return self._out(Fraction(*a) + Fraction(*b))

    def negative(self, a):
        return (-a[0], a[1])

    def multiply(self, a, b):
        return self._out(Fraction(*a) * Fraction(*b))

    def inverse(self, a):
        if a == (0, 1):
            raise ZeroDivisor("inverse")
        return self._out(1 / Fraction(*a))

    def rational(self, q):
        return q

    def as_rational(self, a):
        return a

    def is_element(self, value):
        if not is_pair_of_integers(value) or value[1] <= 0:
            return False
        fraction = Fraction(*value)
        return value == (fraction.numerator, fraction.denominator)


class SmallFunctions(SmallField):
    """The rational functions of one variable over the rationals."""

    def level(self):
        return 1

    def zero(self):
        return ((), ((1, 1),))

    def one(self):
        return (((1, 1),), ((1, 1),))

    def variable(self):
        return (((0, 1), (1, 1)), ((1, 1),))

    def add(self, a, b):
        (an, ad), (bn, bd) = inside(a), inside(b)
        return outside(plus(product(an, bd), product(bn, ad)), product(ad, bd))

    def negative(self, a):
        return (tuple((-n, d) for n, d in a[0]), a[1])

    def multiply(self, a, b):
        (an, ad), (bn, bd) = inside(a), inside(b)
        return outside(product(an, bn), product(ad, bd))

    def inverse(self, a):
        if a == self.zero():
            raise ZeroDivisor("inverse")
        n, d = inside(a)
        return outside(d, n)

    def rational(self, q):
        return outside([Fraction(*q)], [Fraction(1)])

    def as_rational(self, a):
        if len(a[0]) > 1 or len(a[1]) > 1:
            return None
        return a[0][0] if a[0] else (0, 1)

    def is_element(self, value):
        if not isinstance(value, tuple) or len(value) != 2:
            return False
        for part in value:
            if not isinstance(part, tuple):
                return False
            if not all(SmallRationals().is_element(item) for item in part):
                return False
        if not value[1]:
            return False
        return value == outside(*inside(value))


def inside(a):
    return tuple([Fraction(*c) for c in part] for part in a)


def cut(p):
    p = list(p)
    while p and p[-1] == 0:
        p.pop()
    return p


def plus(p, q):
    size = max(len(p), len(q))
    p = p + [Fraction(0)] * (size - len(p))
    q = q + [Fraction(0)] * (size - len(q))
    return cut([a + b for a, b in zip(p, q)])


def product(p, q):
    found = [Fraction(0)] * (len(p) + len(q))
    for i, a in enumerate(p):
        for j, b in enumerate(q):
            found[i + j] += a * b
    return cut(found)


def division(p, q):
    rest = cut(p)
    found = []
    while len(rest) >= len(q):
        term = [Fraction(0)] * (len(rest) - len(q)) + [rest[-1] / q[-1]]
        found = plus(found, term)
        rest = plus(rest, product([-c for c in term], q))
    return found, rest


def outside(p, q):
    p, q = cut(p), cut(q)
    one, two = p, q
    while two:
        one, two = two, division(one, two)[1]
    p, q = division(p, one)[0], division(q, one)[0]
    p = [c / q[-1] for c in p]
    q = [c / q[-1] for c in q]
    return (tuple((c.numerator, c.denominator) for c in p),
            tuple((c.numerator, c.denominator) for c in q))
