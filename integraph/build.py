"""Building one tower for several expressions, and expressions of what is in a tower."""

from integraph.errors import Fault, Malformed, Refused, TooLarge
from integraph.expressions import MOST_POWER, fold
from integraph.rational import ONE, ZERO, rwhole
from integraph.tower import Tower
from integraph.vectors import combination, is_apart

_MOST_KERNELS = 4
_MOST_PART = 20
_MOST_EXPONENT = 60
_MOST_SCALE = 24


def grounds(tower, n):
    """Returns the tuple of the derivatives v_2, .., v_n of the anchors, of level n."""
    return tuple([tower.raise_to(tower.ground(k), k - 1, n) for k in range(2, n + 1)])


def build(expressions):
    """Returns one tower for all, their values in it, and the rows that show it is one."""
    firsts = ()
    scales = ()
    while True:
        attempt = Attempt(firsts, scales)
        try:
            return attempt.result(expressions)
        except Anew as again:
            firsts = again.firsts
            scales = again.scales


class Anew(Fault):
    """An evaluation begins anew, with these logarithms first and these scales."""

    def __init__(self, firsts, scales):
        super().__init__("the evaluation begins anew")
        self.firsts = firsts
        self.scales = scales


class Attempt:
    """One evaluation. Values are pairs of a level and an element of this level."""

    def __init__(self, firsts, scales):
        self.firsts = firsts
        self.scales = scales
        self.tower = Tower((("x",),))
        # The node that made each kernel from t_2 on, and the rows that show it is a new one.
        self.makers = []
        self.witness = []
        # Logarithms and exponentials with their values, which do not change in one attempt.
        self.known = []

    def result(self, expressions):
        """Returns the tower, the values at its height, and the witness."""
        for node in self.firsts:
            self.value_of(node)
        values = [self.value_of(e) for e in expressions]
        return self.tower, tuple([self.lifted(a) for a in values]), tuple(self.witness)

    def value_of(self, e):
        """Returns the value of an expression."""
        return fold(e, lambda node, values: self.value_of_node(node, values))

    def lifted(self, a):
        """Returns the element of the height that a value is."""
        return self.tower.raise_to(a[1], a[0], self.tower.height())

    def value_of_node(self, node, values):
        """Returns the value of a node over the values of its operands."""
        word = node[0]
        if word == "num":
            return 0, (node[1], node[2])
        if word == "x":
            return 1, self.tower.variable(1)
        if word == "exp" or word == "log":
            return self.value_of_function(node, values[0])
        n = max([level for level, _ in values])
        field = self.tower.field(n)
        inner = [self.tower.raise_to(e, level, n) for level, e in values]
        if word == "neg":
            return n, field.negative(inner[0])
        if word == "pow":
            return n, _power(field, inner[0], node[2])
        return n, _value_of_two(field, word, inner[0], inner[1])

    def value_of_function(self, node, a):
        """Returns the value of a logarithm or an exponential."""
        n, e = a
        q = self.tower.field(n).as_rational(e)
        if q is not None:
            return 0, _value_at_rational(node[0], q)
        for other, found in self.known:
            if other == node:
                return found
        u = self.lifted(a)
        if node[0] == "log":
            found = self.value_of_log(node, u)
        else:
            found = self.value_of_exp(node, u)
        self.known.append((node, found))
        return found

    def value_of_log(self, node, u):
        """Returns the value of a logarithm; u, of the level of the height, is no rational."""
        n = self.tower.height()
        field = self.tower.field(n)
        change = field.divide(self.tower.derive(n, u), u)
        kind, found = combination(n, grounds(self.tower, n), change)
        if kind == "apart":
            self.check_place()
            self.add_kernel(node, u, found)
            return n + 1, self.tower.variable(n + 1)
        if not all([rwhole(r) for r in found]):
            if node in self.firsts:
                raise Refused("root")
            raise Anew((node,) + self.firsts, self.scales)
        levels = list(range(2, n + 1))
        if self.product(levels, found) != u:
            raise Refused("constant")
        return n, self.sum_of_anchors(levels, found)

    def check_place(self):
        """Refuses a kernel more than there may be."""
        if self.tower.height() == _MOST_KERNELS:
            raise TooLarge("kernels")

    def add_kernel(self, node, u, rows):
        """Puts a new kernel behind the tower; u is an element of the height."""
        self.tower = Tower(self.tower.monomials() + ((node[0], u),))
        self.makers.append(node)
        self.witness.append(rows)

    def anchor(self, k):
        """Returns what the exponent of level k is the exponential of, at the height."""
        if self.tower.kind(k) == "log":
            return self.lifted((k, self.tower.variable(k)))
        return self.lifted((k - 1, self.tower.argument(k)))

    def exponent(self, k):
        """Returns the exponential of the anchor of level k, at the height."""
        if self.tower.kind(k) == "log":
            return self.lifted((k - 1, self.tower.argument(k)))
        return self.lifted((k, self.tower.variable(k)))

    def sum_of_anchors(self, levels, multiples):
        """Returns the sum of the anchors of these levels, each multiplied by a rational."""
        field = self.tower.field(self.tower.height())
        total = field.zero()
        for k, r in zip(levels, multiples):
            if r != ZERO:
                total = field.add(total, field.multiply(self.anchor(k), field.rational(r)))
        return total

    def product(self, levels, powers):
        """Returns the product of the exponents of these levels, each to a whole power."""
        field = self.tower.field(self.tower.height())
        total = field.one()
        for k, r in zip(levels, powers):
            total = field.multiply(total, field.power(self.exponent(k), r[0]))
        return total

    def levels_of(self, kind):
        """Returns the list of the levels of this kind."""
        return [k for k in range(2, self.tower.height() + 1) if self.tower.kind(k) == kind]

    def value_of_exp(self, node, u):
        """Returns the value of an exponential; u, of the level of the height, is no rational."""
        n = self.tower.height()
        field = self.tower.field(n)
        logarithms = self.levels_of("log")
        powers = self.whole_log_parts(u, logarithms)
        factor = self.product(logarithms, powers)
        z = field.subtract(u, self.sum_of_anchors(logarithms, powers))
        if field.is_zero(z):
            return n, factor
        exponentials = self.levels_of("exp")
        kind, found = combination(n, tuple([self.anchor(k) for k in exponentials]), z)
        if kind == "apart":
            return self.value_of_new_exp(node, z, factor)
        if not all([rwhole(r) for r in found]):
            raise Anew(self.firsts, self.greater_scales(exponentials, found))
        if not all([abs(r[0]) <= _MOST_EXPONENT for r in found]):
            raise TooLarge("power")
        return n, field.multiply(factor, self.product(exponentials, found))

    def whole_log_parts(self, u, logarithms):
        """Returns the logarithmic parts of u at these levels; they must be integers."""
        n = self.tower.height()
        if self.tower.constant_part(n, u) != ZERO:
            raise Refused("constant")
        found = [self.tower.log_part(n, u, k) for k in logarithms]
        if not all([rwhole(c) for c in found]):
            raise Refused("root")
        if not all([abs(c[0]) <= _MOST_PART for c in found]):
            raise TooLarge("power")
        return found

    def value_of_new_exp(self, node, z, factor):
        """Returns the factor times the exponential of z, of which a root is a new kernel."""
        self.check_place()
        n = self.tower.height()
        field = self.tower.field(n)
        scale = _scale_of(self.scales, node)
        u = field.divide(z, field.rational((scale, 1)))
        # The exponentials are apart, so their derivatives and those of the logarithms are, too.
        _, rows = combination(n, grounds(self.tower, n), self.tower.derive(n, u))
        self.add_kernel(node, u, rows)
        field = self.tower.field(n + 1)
        power = field.power(self.tower.variable(n + 1), scale)
        return n + 1, field.multiply(self.lifted((n, factor)), power)

    def greater_scales(self, exponentials, multiples):
        """Returns the scales with which the multiples of the arguments become integers."""
        scales = self.scales
        for k, r in zip(exponentials, multiples):
            if not rwhole(r):
                node = self.makers[k - 2]
                scale = _scale_of(scales, node) * r[1]
                if scale > _MOST_SCALE:
                    raise TooLarge("scale")
                scales = tuple([pair for pair in scales if pair[0] != node]) + ((node, scale),)
        return scales


def _scale_of(scales, node):
    """Returns the scale of a node, 1 at first."""
    for other, scale in scales:
        if other == node:
            return scale
    return 1


def _power(field, a, k):
    if k < 0 and field.is_zero(a):
        raise Refused("zero")
    return field.power(a, k)


def _value_of_two(field, word, a, b):
    if word == "add":
        return field.add(a, b)
    if word == "sub":
        return field.subtract(a, b)
    if word == "mul":
        return field.multiply(a, b)
    if field.is_zero(b):
        raise Refused("zero")
    return field.divide(a, b)


def _value_at_rational(word, q):
    """Returns the rational that the logarithm or the exponential of a rational is."""
    if word == "exp" and q == ZERO:
        return ONE
    if word == "log" and q == ONE:
        return ZERO
    if word == "log" and q == ZERO:
        raise Refused("zero")
    raise Refused("constant")


def is_tower(monomials, witness):
    """Tells whether build could return a tower with these monomials, and this witness for it."""
    try:
        tower = Tower(monomials)
    except Malformed:
        return False
    if not isinstance(witness, tuple) or len(witness) != tower.height() - 1:
        return False
    if not tower.is_normal_tower():
        return False
    for n in range(1, tower.height()):
        if not is_apart(n, grounds(tower, n), tower.ground(n + 1), witness[n - 1]):
            return False
    return True


def expression(tower, e):
    """Returns an expression of an element of the level of the height."""
    return _expression_of(tower, tower.height(), e)


def _expression_of(tower, n, e):
    if n == 0:
        return ("num",) + e
    num, den = e
    variable = _expression_of_variable(tower, n)
    top = _expression_of_polynomial(tower, n, num, variable)
    if len(den) == 1:
        return top
    return ("div", top, _expression_of_polynomial(tower, n, den, variable))


def _expression_of_variable(tower, n):
    if n == 1:
        return ("x",)
    return (tower.kind(n), _expression_of(tower, n - 1, tower.argument(n)))


def _expression_of_polynomial(tower, n, p, variable):
    """Returns the sum of the terms, the highest power first."""
    field = tower.field(n - 1)
    total = None
    for i in reversed(range(len(p))):
        if field.is_zero(p[i]):
            continue
        term = _expression_of_term(tower, n, p[i], _expression_of_power(variable, i))
        if total is None:
            total = term
        else:
            total = ("add", total, term)
    if total is None:
        return ("num", 0, 1)
    return total


def _expression_of_term(tower, n, c, power):
    """Returns the coefficient times the power; the power is None for the power 0."""
    if power is None:
        return _expression_of(tower, n - 1, c)
    if c == tower.field(n - 1).one():
        return power
    return ("mul", _expression_of(tower, n - 1, c), power)


def _expression_of_power(variable, i):
    """Returns the power, None for the power 0: exponents above the greatest one are split."""
    if i == 0:
        return None
    first = min(i, MOST_POWER)
    power = _single_power(variable, first)
    left = i - first
    while left > 0:
        step = min(left, MOST_POWER)
        power = ("mul", power, _single_power(variable, step))
        left = left - step
    return power


def _single_power(variable, i):
    if i == 1:
        return variable
    return ("pow", variable, i)
