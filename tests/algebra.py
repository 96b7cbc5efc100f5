"""Elements, polynomials and towers for the tests, written as short texts."""

import re
from fractions import Fraction

from integraph.answers import add_answers, is_answer, plain, rational_log
from integraph.field import RationalFunctions, Rationals
from integraph.polynomial import pmul, trim
from integraph.tower import Tower
from integraph.vectors import combination

LEVELS = [Rationals()]
for _ in range(5):
    LEVELS.append(RationalFunctions(LEVELS[-1]))


def rat(number):
    """Returns the rational that a number of Python is."""
    return Fraction(number).as_integer_ratio()


def q(*numbers):
    """Returns the polynomial over the rationals with these coefficients, the last not zero."""
    return tuple(rat(n) for n in numbers)


class Box:
    """An element with Python's operators."""

    def __init__(self, field, e):
        self.field = field
        self.e = e

    def _of(self, e):
        return Box(self.field, e)

    def __add__(self, other):
        return self._of(self.field.add(self.e, other.e))

    def __sub__(self, other):
        return self._of(self.field.subtract(self.e, other.e))

    def __mul__(self, other):
        return self._of(self.field.multiply(self.e, other.e))

    def __truediv__(self, other):
        return self._of(self.field.divide(self.e, other.e))

    def __neg__(self):
        return self._of(self.field.negative(self.e))

    def __pow__(self, other):
        top, bottom = self.field.as_rational(other.e)
        assert bottom == 1
        return self._of(self.field.power(self.e, top))


def lift(e, low, high):
    for n in range(low + 1, high + 1):
        e = LEVELS[n].lift(e)
    return e


def el(n, text):
    """Returns the element of level n that a text in x (or t1), t2, t3, .. stands for."""
    field = LEVELS[n]
    names = {f"t{k}": Box(field, lift(LEVELS[k].variable(), k, n)) for k in range(1, n + 1)}
    names["x"] = names.get("t1")
    names["N"] = lambda k: Box(field, field.rational((k, 1)))
    text = re.sub(r"(?<!\w)\d+", lambda found: f"N({found.group()})", text.replace("^", "**"))
    return eval(text, names).e


def pol(n, *texts):
    """Returns the polynomial over level n with these coefficients, the constant first."""
    return tuple(el(n, text) for text in texts)


def zpol(n, *rows):
    """Returns the polynomial over k[z]: each row has the coefficients of one polynomial in z."""
    return tuple(pol(n, *row) for row in rows)


def tower(*texts):
    """Returns the tower x, log(..), exp(..), ..; the arguments are texts as for el."""
    monomials = [("x",)]
    for text in texts:
        kind, argument = text.split(" ", 1)
        monomials.append((kind, el(len(monomials), argument)))
    return Tower(tuple(monomials))


X = tower()
LOG = tower("log x")
EXP = tower("exp x")
LOG_EXP = tower("log x", "exp x")
EXP_LOG = tower("exp x", "log t2+1")
EXP_EXP = tower("exp x", "exp t2")
LOG_LOG = tower("log x+1", "log t2")
HIGH = tower("log x", "exp x", "exp t3/x")
# Towers as build returns them, of all heights, with both kinds at each level.
TOWERS = (
    X, LOG, EXP, LOG_LOG, EXP_EXP, LOG_EXP, EXP_LOG, tower("log x", "exp x*t2"),
    tower("exp x^2", "log x", "log t3+x"), HIGH,
    tower("log x", "log t2", "exp x*t2"))


def unlike_levels(towers=TOWERS):
    """Returns the pairs of a tower and a level, each level over the same monomials once."""
    found = {}
    for t in towers:
        for n in range(1, t.height() + 1):
            found.setdefault(t.monomials()[:n], (t, n))
    return list(found.values())


def fit(t, n, w):
    """Returns w without its constant and logarithmic parts, or None if this is not fit."""
    field = t.field(n)
    for k in range(2, n + 1):
        if t.kind(k) == "log":
            part = field.rational(t.log_part(n, w, k))
            w = field.subtract(w, field.multiply(part, lift(t.variable(k), k, n)))
    w = field.subtract(w, field.rational(t.constant_part(n, w)))
    arguments = tuple(lift(t.argument(k), k - 1, n) for k in range(2, n + 1)
                      if t.kind(k) == "exp")
    kind, found = combination(n, arguments, w)
    if kind == "sum" and all(d == 1 for _, d in found):
        return None
    return w


def chance_fit(chance, t, n):
    """Returns an element that is fit for the equation of chapter 12."""
    while True:
        w = small_element(chance, n)
        if n > 1 and chance.random() < 0.4:
            w = lift(small_element(chance, n - 1), n - 1, n)
        for k in range(2, n + 1):
            # Such sums are where powers cancel.
            if t.kind(k) == "exp" and chance.random() < 0.3:
                moved = t.field(n).rational((chance.randint(-3, 3), 1))
                moved = t.field(n).multiply(lift(t.argument(k), k - 1, n), moved)
                w = t.field(n).add(w, moved)
        w = fit(t, n, w)
        if w is not None:
            return w


def multiplied(field, e, c):
    """Returns the element e times the rational c."""
    return field.multiply(e, field.rational(c))


def with_roots(*roots):
    """Returns the monic polynomial over the rationals with these roots."""
    found = q(1)
    for root in roots:
        found = pmul(LEVELS[0], found, q(-Fraction(root), 1))
    return found


def normal_polynomials(t, n):
    """Returns polynomials over level n - 1, normal and without divisors of their own."""
    rows = [("1", "1"), ("-2", "1"), ("1", "0", "1"), ("-3", "0", "1")]
    if n > 1:
        rows += [("x", "1"), ("-x", "0", "1")]
    if t.kind(n) != "exp":
        rows.append(("0", "1"))
    return [pol(n - 1, *row) for row in rows]


def monic(field, p):
    return tuple(field.divide(a, p[-1]) for a in p)


def chance_rational(chance, size=4):
    return rat(Fraction(chance.randint(-size, size), chance.randint(1, 2)))


def chance_element(chance, field):
    """Returns an element; one of a field of level 1 and above often has a denominator."""
    if field.level() == 0:
        return chance_rational(chance)
    size = 2 if field.level() == 1 else 1
    top = chance_polynomial(chance, field.base, size)
    bottom = chance_polynomial(chance, field.base, chance.randint(0, 1))
    return field.fraction(top, bottom or (field.base.one(),))


def chance_polynomial(chance, field, size):
    items = [chance_element(chance, field) for _ in range(size)] + [field.one()]
    if chance.random() < 0.5:
        items[-1] = chance_element(chance, field)
    while items and field.is_zero(items[-1]):
        items.pop()
    return tuple(items)


def small_element(chance, n):
    """Returns a small element of level n that has at most one divisor at its own level."""
    if n == 0:
        return chance_rational(chance, 2)
    names = ["x"] + [f"t{k}" for k in range(2, n + 1)]
    top = [f"{chance.randint(-2, 2)}*{chance.choice(names)}^{chance.randint(0, 2)}" for _ in "ab"]
    last = names[-1]
    bottoms = ["1", "1", last, f"({last}+1)", f"({last}+x)" if n > 1 else "(x^2+1)", "x"]
    text = f"({top[0]}+({top[1]}))/{chance.choice(bottoms)}"
    return el(n, text)


def chance_answer(chance, t, n):
    """Returns an answer with logarithms over rational roots and over others."""
    field = t.field(n)
    answer = plain(t, n, small_element(chance, n))
    for _ in range(chance.randint(0, 2)):
        s = small_element(chance, n)
        kind = chance.randint(0, 3)
        if field.is_zero(s):
            continue
        if kind < 2:
            c = rat(chance.choice(("-3", "-1", "1", "2", "1/2")))
            more = rational_log(t, n, c, s)
        elif kind == 2:
            more = (field.zero(), ((with_roots(1, "-1/2"), trim(field, (s, field.one()))),))
        else:
            r = q(chance.choice((-2, 1, -3)), 0, 1)
            # Above x such logarithms have large derivatives.
            top = small_element(chance, n) if n == 1 else field.one()
            more = (field.zero(), ((r, trim(field, (s, top))),))
        if is_answer(t, n, more):
            answer = add_answers(t, n, answer, more)
    return answer
