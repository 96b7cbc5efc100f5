"""Towers of fields: x, and over it logarithms and exponentials, with their derivation."""

from integraph.divisor import pgcd, psolve
from integraph.errors import Malformed, ZeroDivisor
from integraph.field import field_of
from integraph.polynomial import degree, monomial, pdivide, pquotient, trim
from integraph.rational import ZERO

_MOST_LEVELS = 4


class Tower:
    """A tower, given by the tuple of its monomials."""

    def __init__(self, monomials):
        if not isinstance(monomials, tuple) or len(monomials) > _MOST_LEVELS:
            raise Malformed("no tuple of at most four monomials")
        if monomials[:1] != (("x",),):
            raise Malformed("the first monomial is not x")
        self.given = monomials
        self.fields = tuple([field_of(n) for n in range(len(monomials) + 1)])
        self.grounds = ()
        for n in range(2, len(monomials) + 1):
            _check_monomial(self.fields[n - 1], monomials[n - 1])
            kind, u = monomials[n - 1]
            ground = self.derive(n - 1, u)
            if kind == "log":
                ground = self.fields[n - 1].divide(ground, u)
            self.grounds = self.grounds + (ground,)

    def height(self):
        """Returns the number of the monomials."""
        return len(self.given)

    def monomials(self):
        """Returns the tuple of the monomials."""
        return self.given

    def kind(self, n):
        """Returns the kind of the monomial of level n: x, log or exp."""
        return self.given[n - 1][0]

    def argument(self, n):
        """Returns the argument of the monomial of level n, from 2 on."""
        return self.given[n - 1][1]

    def field(self, n):
        """Returns the field of level n."""
        return self.fields[n]

    def variable(self, n):
        """Returns the variable of level n as an element of level n."""
        return self.fields[n].variable()

    def raise_to(self, e, low, high):
        """Returns the element e of the low level as one of the high level."""
        for n in range(low + 1, high + 1):
            e = self.fields[n].lift(e)
        return e

    def lower_to(self, e, high, low):
        """Returns the element of the low level that e of the high level is, or None."""
        for n in range(high, low, -1):
            e = self.fields[n].lowered(e)
            if e is None:
                return None
        return e

    def ground(self, n):
        """Returns u' / u for a logarithm and u' for an exponential, an element of level n - 1."""
        return self.grounds[n - 2]

    def derive(self, n, e):
        """Returns the derivative of an element of level n."""
        if n == 0:
            return ZERO
        num, den = e
        field = self.fields[n]
        change = field.fraction(self.derive_polynomial(n, num), den)
        if len(den) == 1:
            return change
        # p'/q - (p/q)(q'/q) has smaller divisors on the way than (p' q - p q') / q^2.
        quotient = field.fraction(self.derive_polynomial(n, den), den)
        return field.subtract(change, field.multiply(e, quotient))

    def derive_polynomial(self, n, p):
        """Returns the derivative of a polynomial over level n - 1 in the variable of level n."""
        field = self.fields[n - 1]
        found = [self.derive(n - 1, c) for c in p]
        exponential = self.kind(n) == "exp"
        for i, c in enumerate(p):
            if i == 0 or field.is_zero(c):
                continue
            moved = field.multiply(c, field.rational((i, 1)))
            if n > 1:
                moved = field.multiply(moved, self.ground(n))
            # The power stays for an exponential; otherwise it becomes one less.
            place = i if exponential else i - 1
            found[place] = field.add(found[place], moved)
        return trim(field, found)

    def is_normal(self, n, p):
        """Tells whether p has no common divisor of positive degree with its derivative."""
        if len(p) == 0:
            return False
        return degree(pgcd(self.fields[n - 1], p, self.derive_polynomial(n, p))) == 0

    def is_special(self, n, p):
        """Tells whether p divides its derivative."""
        return pquotient(self.fields[n - 1], self.derive_polynomial(n, p), p) is not None

    def special_split(self, n, p):
        """Returns (s, q) with p = s q: s is the power of an exponential in p, otherwise one."""
        if len(p) == 0:
            raise ZeroDivisor("the special part of zero")
        field = self.fields[n - 1]
        k = 0
        if self.kind(n) == "exp":
            while field.is_zero(p[k]):
                k = k + 1
        return monomial(field, field.one(), k), p[k:]

    def parts(self, n, e):
        """Returns (r, f) with e = r + f: r is reduced, f proper without special poles."""
        num, den = e
        special, normal = self.special_split(n, den)
        base, field = self.fields[n - 1], self.fields[n]
        # Most elements are reduced; for them there is nothing to do.
        if len(normal) == 1:
            return e, field.zero()
        if len(special) == 1:
            top, rest = pdivide(base, num, normal)
        else:
            rest, top = psolve(base, special, normal, num)
        return field.fraction(top, special), field.fraction(rest, normal)

    def terms(self, n, r):
        """Returns the pairs of a power and its coefficient, not zero, highest power first."""
        num, den = r
        special, normal = self.special_split(n, den)
        if len(normal) > 1:
            raise Malformed("an element that is not reduced")
        field = self.fields[n - 1]
        pairs = [(i - degree(special), c) for i, c in enumerate(num) if not field.is_zero(c)]
        pairs.reverse()
        return tuple(pairs)

    def from_terms(self, n, terms):
        """Returns the reduced element with these terms, in any order."""
        field = self.fields[n - 1]
        low = min([i for i, _ in terms], default=0)
        if low < 0 and self.kind(n) != "exp":
            raise Malformed("a negative power of what is no exponential")
        low = min(low, 0)
        high = max([i for i, _ in terms], default=0)
        found = [field.zero()] * (max(high, 0) - low + 1)
        for i, c in terms:
            found[i - low] = field.add(found[i - low], c)
        return self.fields[n].fraction(trim(field, found), monomial(field, field.one(), -low))

    def constant_part(self, n, e):
        """Returns the constant part of an element of level n, a rational."""
        while n > 0:
            e = self._coefficient(n, e, 0)
            n = n - 1
        return e

    def log_part(self, n, e, l):
        """Returns the logarithmic part at the level l of an element of level n, a rational."""
        if l < 1 or l > self.height() or self.kind(l) != "log":
            raise Malformed("a level that is no logarithm's")
        if n < l:
            return ZERO
        while n > l:
            e = self._coefficient(n, e, 0)
            n = n - 1
        return self.constant_part(n - 1, self._coefficient(n, e, 1))

    def _coefficient(self, n, e, i):
        """Returns the coefficient of a power in the reduced part of an element of level n."""
        reduced, _ = self.parts(n, e)
        num, den = reduced
        at = i + degree(den)
        if at < len(num):
            return num[at]
        return self.fields[n - 1].zero()

    def is_normal_tower(self):
        """Tells whether no argument of an exponential has a constant or a logarithmic part."""
        for n in range(2, self.height() + 1):
            if self.kind(n) == "exp" and not self._is_free(n - 1, self.argument(n)):
                return False
        return True

    def _is_free(self, n, e):
        if self.constant_part(n, e) != ZERO:
            return False
        logarithms = [l for l in range(2, n + 1) if self.kind(l) == "log"]
        return all([self.log_part(n, e, l) == ZERO for l in logarithms])


def _check_monomial(field, pair):
    """Looks after a monomial over the field: no rational has a logarithm or exponential here."""
    if not isinstance(pair, tuple) or len(pair) != 2:
        raise Malformed("a monomial that is no pair")
    kind, u = pair
    if kind not in ("log", "exp") or not field.is_element(u):
        raise Malformed("a monomial of another kind, or over no element")
    if field.as_rational(u) is not None:
        raise Malformed("a monomial over a rational")
