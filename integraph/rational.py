"""Rational numbers: pairs of a numerator and a positive denominator in lowest terms."""

from math import gcd

from integraph.errors import NoText, ZeroDivisor

ZERO = (0, 1)
ONE = (1, 1)

# Python itself refuses to read or write integers of very many digits at once.
_PIECE = 500


def is_rational(value):
    """Tells whether a value is a rational; every value may be asked about."""
    if not isinstance(value, tuple) or len(value) != 2:
        return False
    n, d = value
    if not _is_integer(n) or not _is_integer(d):
        return False
    return d > 0 and gcd(n, d) == 1


def _is_integer(value):
    return isinstance(value, int) and not isinstance(value, bool)


def rational(n, d):
    """Returns the rational that is n divided by d."""
    if d == 0:
        raise ZeroDivisor("a rational with the denominator zero")
    common = gcd(n, d)
    if d < 0:
        common = -common
    return (n // common, d // common)


def radd(a, b):
    """Returns the sum."""
    return rational(a[0] * b[1] + b[0] * a[1], a[1] * b[1])


def rsub(a, b):
    """Returns the difference."""
    return rational(a[0] * b[1] - b[0] * a[1], a[1] * b[1])


def rmul(a, b):
    """Returns the product."""
    return rational(a[0] * b[0], a[1] * b[1])


def rneg(a):
    """Returns the negative."""
    return (-a[0], a[1])


def rinv(a):
    """Returns the inverse."""
    n, d = a
    if n == 0:
        raise ZeroDivisor("the inverse of zero")
    if n < 0:
        return (-d, -n)
    return (d, n)


def rdiv(a, b):
    """Returns a times the inverse of b."""
    return rmul(a, rinv(b))


def rpow(a, k):
    """Returns a to the power of the integer k."""
    if k < 0:
        return rpow(rinv(a), -k)
    # Powers of coprime integers are coprime, so nothing is left to divide.
    return (_integer_power(a[0], k), _integer_power(a[1], k))


def _integer_power(base, k):
    result = 1
    while k > 0:
        if k % 2 == 1:
            result = result * base
        k = k // 2
        if k > 0:
            base = base * base
    return result


def rcompare(a, b):
    """Returns -1, 0 or 1 if a is less than, equal to or greater than b."""
    return rsign((a[0] * b[1] - b[0] * a[1], 1))


def rsign(a):
    """Returns the sign of a: -1, 0 or 1."""
    if a[0] > 0:
        return 1
    if a[0] < 0:
        return -1
    return 0


def rfloor(a):
    """Returns the greatest integer that is not greater than a."""
    return a[0] // a[1]


def rwhole(a):
    """Tells whether a is an integer."""
    return a[1] == 1


def format_integer(n):
    """Returns the decimal digits of an integer of any size."""
    size = abs(n)
    # The powers of ten at which the digits are cut: each one the square of the one before.
    powers = [_integer_power(10, _PIECE)]
    while powers[-1] <= size:
        powers.append(powers[-1] * powers[-1])
    digits = _padded(size, powers, len(powers) - 1).lstrip("0")
    if digits == "":
        return "0"
    if n < 0:
        return "-" + digits
    return digits


def _padded(n, powers, k):
    """Returns the digits of n, with as many leading zeros as numbers below powers[k] need."""
    if k == 0:
        return str(n).zfill(_PIECE)
    high, low = divmod(n, powers[k - 1])
    return _padded(high, powers, k - 1) + _padded(low, powers, k - 1)


def parse_digits(text):
    """Returns the integer of a string of decimal digits of any length."""
    pieces = []
    end = len(text)
    while end > 0:
        start = max(0, end - _PIECE)
        pieces.append(int(text[start:end]))
        end = start
    # The pieces, the last digits first, are joined by pairs, which costs less than one by one.
    base = _integer_power(10, _PIECE)
    while len(pieces) > 1:
        pieces = _joined_pairs(pieces, base)
        base = base * base
    return pieces[0]


def _joined_pairs(pieces, base):
    joined = []
    for at in range(0, len(pieces), 2):
        if at + 1 < len(pieces):
            joined.append(pieces[at] + pieces[at + 1] * base)
        else:
            joined.append(pieces[at])
    return joined


def format_rational(a):
    """Returns the written form of a rational."""
    n, d = a
    if d == 1:
        return format_integer(n)
    return format_integer(n) + "/" + format_integer(d)


def parse_rational(text):
    """Returns the rational with this written form; every value may be asked about."""
    if not isinstance(text, str):
        raise NoText(0)
    top, slash, bottom = text.partition("/")
    n = _parse_integer(top)
    if slash == "":
        return (n, 1)
    value = (n, _parse_integer(bottom))
    # A denominator 1 is not written; others below 1 and common divisors make no rational.
    if value[1] == 1 or not is_rational(value):
        raise NoText(0)
    return value


def _parse_integer(text):
    """Returns the integer with this written form: no leading zeros, no minus before zero."""
    digits = text.removeprefix("-")
    if not digits.isascii() or not digits.isdigit():
        raise NoText(0)
    if digits.startswith("0") and text != "0":
        raise NoText(0)
    n = parse_digits(digits)
    if text.startswith("-"):
        return -n
    return n
