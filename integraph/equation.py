"""The equation D y + (D w) y = g: its solution, or data that show that there is none."""

from integraph.build import grounds
from integraph.divisor import psolve, separate, squarefree
from integraph.hermite import cofactors_at_pole, is_reduced
from integraph.poles import clear
from integraph.polynomial import degree, pmul, ppow
from integraph.rational import rwhole
from integraph.vectors import combination


def applied(tower, n, w, y):
    """Returns D y + (D w) y."""
    field = tower.field(n)
    return field.add(tower.derive(n, y), field.multiply(tower.derive(n, w), y))


def cancelling(tower, n, e):
    """Returns the power of the exponential of level n that cancels for e, or None."""
    items = grounds(tower, n - 1) + (tower.ground(n),)
    kind, found = combination(n - 1, items, tower.derive(n - 1, e))
    if kind == "apart" or not rwhole(found[-1]):
        return None
    return -found[-1][0]


def bounds(tower, n, w, g):
    """Returns (N, M): solutions have at most the degree N and at least the order M."""
    return _bounds_with(tower, n, w, _cancelling_powers(tower, n, w), g)


def _cancelling_powers(tower, n, w):
    """Returns the powers that may cancel at the highest and at the lowest end, each or None."""
    if tower.kind(n) != "exp":
        return None, None
    base = tower.field(n - 1)
    high = low = None
    if not _has_positive_degree(w):
        high = cancelling(tower, n, _ground_coefficient(tower, n, w))
    if not _has_negative_order(base, w):
        num, den = w
        value = base.zero()
        if len(num) > 0:
            value = base.divide(num[0], den[0])
        low = cancelling(tower, n, value)
    return high, low


def _ground_coefficient(tower, n, e):
    """Returns the coefficient of the power 0 in the reduced part of e."""
    reduced, _ = tower.parts(n, e)
    for i, c in tower.terms(n, reduced):
        if i == 0:
            return c
    return tower.field(n - 1).zero()


def _has_positive_degree(e):
    num, den = e
    return len(num) > len(den)


def _has_negative_order(base, e):
    return base.is_zero(e[1][0])


def _degree_of(e):
    num, den = e
    return degree(num) - degree(den)


def _order_of(tower, n, e):
    """Returns how many times the exponential of level n divides e, which is not zero."""
    num, den = e
    top, _ = tower.special_split(n, num)
    bottom, _ = tower.special_split(n, den)
    return degree(top) - degree(bottom)


def _bounds_with(tower, n, w, powers, g):
    """Returns the bounds, where the powers that cancel for w are known."""
    if tower.kind(n) == "exp":
        return _bounds_over_exponential(tower, n, w, powers, g)
    if not _has_positive_degree(w):
        return max(_degree_of(g) + 1, 0), 0
    return _degree_of(g) - _degree_of(tower.derive(n, w)), 0


def _bounds_over_exponential(tower, n, w, powers, g):
    high, low = _degree_of(g), _order_of(tower, n, g)
    if _has_positive_degree(w):
        high = high - _degree_of(w)
    elif powers[0] is not None:
        high = max(high, powers[0])
    if _has_negative_order(tower.field(n - 1), w):
        low = low - _order_of(tower, n, w)
    elif powers[1] is not None:
        low = min(low, powers[1])
    return high, low


def _room(limits, cleared):
    """Returns the greatest degree that Z can have, where y is t^M Z q / h."""
    high, low = limits
    return high - low + degree(cleared[1]) - degree(cleared[2])


def _digit(tower, n, low, cleared):
    """Returns the remainder of Z by a, where y is t^low Z q / h."""
    _, _, _, a, b, c = cleared
    field = tower.field(n)
    if low != 0:
        c = field.multiply(c, field.power(tower.variable(n), -low))
    # Denominators are powers of t, which has an inverse modulo a.
    left = pmul(field.base, b[0], c[1])
    right = pmul(field.base, c[0], b[1])
    found, _ = psolve(field.base, left, a, right)
    return found


def equation(tower, n, w, g):
    """Returns ("found", y) with D y + (D w) y = g, or ("refused", data)."""
    search = Solver(tower, n, w, g)
    search.take_new_poles()
    search.take_the_rest()
    if search.stop is None:
        return ("found", search.y)
    return ("refused", search.stop)


class Solver:
    """The search for y: f is always g less what the equation gives for y."""

    def __init__(self, tower, n, w, g):
        self.tower = tower
        self.n = n
        self.w = w
        self.y = tower.field(n).zero()
        self.f = g
        self.stop = None

    def is_over(self):
        """Tells whether y is found or the search is stopped."""
        return self.stop is not None or self.tower.field(self.n).is_zero(self.f)

    def take(self, step):
        """Adds a step to y."""
        field = self.tower.field(self.n)
        self.y = field.add(self.y, step)
        self.f = field.subtract(self.f, applied(self.tower, self.n, self.w, step))

    def take_new_poles(self):
        """Takes off the poles where w has none."""
        base = self.tower.field(self.n - 1)
        while not self.is_over():
            _, normal = self.tower.special_split(self.n, self.f[1])
            _, new = separate(base, normal, self.w[1])
            factors = squarefree(base, new)
            if len(factors) == 0:
                return
            if factors[-1][1] == 1:
                self.stop = ("simple", self.y)
            else:
                self.take(self.step_at_pole(factors[-1]))

    def step_at_pole(self, factor):
        """Returns an element, the poles of which take off the highest ones of f at the factor."""
        v, k = factor
        _, b, _ = cofactors_at_pole(self.tower, self.n, self.f, factor)
        field = self.tower.field(self.n)
        return field.fraction(b, ppow(field.base, v, k - 1))

    def take_the_rest(self):
        """Takes off what is left when f has poles only where w has some, and special ones."""
        if self.is_over():
            return
        low = self.tower.field(self.n).lowered(self.w)
        _, normal = self.tower.special_split(self.n, self.w[1])
        if len(normal) > 1:
            self.take_old_poles()
        elif low is None:
            self.take_ends()
        elif self.tower.kind(self.n) == "exp":
            self.take_powers(low)
        else:
            self.take_degrees(low)

    def take_old_poles(self):
        """Takes off what the poles of w leave open, as digits with growing powers of a."""
        tower, n = self.tower, self.n
        field = tower.field(n)
        powers = _cancelling_powers(tower, n, self.w)
        while not self.is_over():
            cleared = clear(tower, n, self.w, self.f)
            limits = _bounds_with(tower, n, self.w, powers, self.f)
            room = _room(limits, cleared)
            if room < 0:
                self.stop = ("range", self.y)
                return
            digit = _digit(tower, n, limits[1], cleared)
            if room < degree(cleared[3]) and degree(digit) > room:
                self.stop = ("digit", self.y)
                return
            step = field.fraction(pmul(field.base, digit, cleared[2]), cleared[1])
            self.take(field.multiply(step, field.power(tower.variable(n), limits[1])))

    def take_ends(self):
        """Takes off the highest or lowest powers of f, where w has a power of t itself."""
        tower, n = self.tower, self.n
        powers = _cancelling_powers(tower, n, self.w)
        at = 0 if _has_positive_degree(self.w) else -1
        i, c = tower.terms(n, tower.derive(n, self.w))[at]
        while not self.is_over():
            high, low = _bounds_with(tower, n, self.w, powers, self.f)
            j, e = tower.terms(n, self.f)[at]
            if low <= j - i <= high:
                factor = tower.field(n - 1).divide(e, c)
                self.take(tower.from_terms(n, ((j - i, factor),)))
            else:
                self.stop = ("range", self.y)

    def take_powers(self, w):
        """Takes off all powers of an exponential, each by an equation of the level below."""
        for i, e in self.tower.terms(self.n, self.f):
            self.take_power(_exponent_below(self.tower, self.n, w, i), i, e)
            if self.stop is not None:
                return

    def take_degrees(self, w):
        """Takes off the powers of a logarithm, always the highest one."""
        while not self.is_over():
            i, e = self.tower.terms(self.n, self.f)[0]
            self.take_power(w, i, e)

    def take_power(self, w, i, e):
        """Takes off e t^i by the equation of w and e."""
        kind, found = equation(self.tower, self.n - 1, w, e)
        if kind == "found":
            self.take(self.tower.from_terms(self.n, ((i, found),)))
        else:
            self.stop = ("below", self.y, i, found)


def _exponent_below(tower, n, w, i):
    """Returns w + i u for the exponential of u."""
    base = tower.field(n - 1)
    return base.add(w, base.multiply(tower.argument(n), base.rational((i, 1))))


def refutes(tower, n, w, g, data):
    """Tells whether data show that no y has D y + (D w) y = g; data may be any value."""
    if not isinstance(data, tuple) or len(data) < 2:
        return False
    field = tower.field(n)
    if not field.is_element(data[1]):
        return False
    f = field.subtract(g, applied(tower, n, w, data[1]))
    if field.is_zero(f):
        return False
    if data[0] == "below" and len(data) == 4:
        return _refutes_below(tower, n, w, f, data)
    if len(data) != 2:
        return False
    cleared = clear(tower, n, w, f)
    if data[0] == "simple":
        return cleared[0] == "simple"
    if cleared[0] == "simple":
        return False
    if data[0] == "range":
        return _room(bounds(tower, n, w, f), cleared) < 0
    return data[0] == "digit" and _digit_refutes(tower, n, w, f, cleared)


def _digit_refutes(tower, n, w, f, cleared):
    limits = bounds(tower, n, w, f)
    room = _room(limits, cleared)
    if room < 0 or room >= degree(cleared[3]):
        return False
    return degree(_digit(tower, n, limits[1], cleared)) > room


def _refutes_below(tower, n, w, f, data):
    """Tells whether the data of the level below show that there is no solution for f."""
    _, _, i, lower = data
    w = tower.field(n).lowered(w)
    if tower.kind(n) == "x" or w is None or not is_reduced(tower, n, f):
        return False
    if not isinstance(i, int) or isinstance(i, bool):
        return False
    pairs = tower.terms(n, f)
    if tower.kind(n) == "exp":
        w = _exponent_below(tower, n, w, i)
    else:
        pairs = pairs[:1]
    for power, e in pairs:
        if power == i:
            return refutes(tower, n - 1, w, e, lower)
    return False
