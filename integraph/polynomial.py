"""Polynomials over a field: tuples of elements, the constant first, without zeros at the end."""

from integraph.errors import ZeroDivisor


def trim(field, coefficients):
    """Returns the polynomial with these coefficients, a tuple or a list."""
    size = len(coefficients)
    while size > 0 and field.is_zero(coefficients[size - 1]):
        size = size - 1
    return tuple(coefficients[:size])


def degree(p):
    """Returns the degree, -1 for the zero polynomial."""
    return len(p) - 1


def last(p):
    """Returns the last element."""
    if len(p) == 0:
        raise ZeroDivisor("the zero polynomial has no last element")
    return p[-1]


def constant(field, e):
    """Returns the constant polynomial with the value e."""
    return trim(field, (e,))


def monomial(field, e, k):
    """Returns e times the k-th power of the variable."""
    return trim(field, [field.zero()] * k + [e])


def padd(field, p, q):
    """Returns the sum."""
    if len(p) < len(q):
        return padd(field, q, p)
    total = [field.add(a, b) for a, b in zip(p, q)]
    return trim(field, total + list(p[len(q):]))


def psub(field, p, q):
    """Returns the difference."""
    return padd(field, p, pneg(field, q))


def pneg(field, p):
    """Returns the negative."""
    return tuple([field.negative(a) for a in p])


def pmul(field, p, q):
    """Returns the product."""
    if len(p) == 0 or len(q) == 0:
        return ()
    result = [field.zero()] * (len(p) + len(q) - 1)
    for i, a in enumerate(p):
        # Many coefficients are zero, and products of elements can be costly.
        if field.is_zero(a):
            continue
        for j, b in enumerate(q):
            result[i + j] = field.add(result[i + j], field.multiply(a, b))
    return trim(field, result)


def pscale(field, p, e):
    """Returns the product of a polynomial and an element."""
    return trim(field, [field.multiply(a, e) for a in p])


def ppow(field, p, k):
    """Returns the k-th power; the power 0 is one."""
    result = (field.one(),)
    while k > 0:
        if k % 2 == 1:
            result = pmul(field, result, p)
        k = k // 2
        if k > 0:
            p = pmul(field, p, p)
    return result


def pdivide(field, p, q):
    """Returns the quotient and the remainder of p by q."""
    inverse = field.inverse(last(q))
    size = degree(q)
    steps = max(0, len(p) - size)
    rest = list(p)
    quotient = [field.zero()] * steps
    for k in reversed(range(steps)):
        factor = field.multiply(rest[k + size], inverse)
        quotient[k] = factor
        if field.is_zero(factor):
            continue
        # The item at k + size becomes zero and is not looked at again.
        for i in range(size):
            rest[k + i] = field.subtract(rest[k + i], field.multiply(factor, q[i]))
    return trim(field, quotient), trim(field, rest[:size])


def pquotient(field, p, q):
    """Returns the quotient if q is not zero and divides p, otherwise None."""
    if len(q) == 0:
        return None
    quotient, rest = pdivide(field, p, q)
    if len(rest) > 0:
        return None
    return quotient


def pmonic(field, p):
    """Returns p divided by its last element; the zero polynomial stays."""
    if len(p) == 0:
        return ()
    return pscale(field, p, field.inverse(last(p)))


def pformal(field, p):
    """Returns the formal derivative."""
    return trim(field, [field.multiply(field.rational((k, 1)), a) for k, a in enumerate(p)][1:])


def pvalue(field, p, e):
    """Returns the value at the element e."""
    value = field.zero()
    for a in reversed(p):
        value = field.add(field.multiply(value, e), a)
    return value


def pcompose(field, p, q):
    """Returns p with the polynomial q in place of the variable."""
    result = ()
    for a in reversed(p):
        result = padd(field, pmul(field, result, q), constant(field, a))
    return result


def is_polynomial(field, value):
    """Tells whether a value is a polynomial over the field; every value may be asked about."""
    if not isinstance(value, tuple):
        return False
    for item in value:
        if not field.is_element(item):
            return False
    return len(value) == 0 or not field.is_zero(value[-1])
