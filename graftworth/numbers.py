"""Fields and their numbers: fractions, and the rests by a small prime.

A field is told by an integer p: 0 for the fractions, or the prime. A number is a pair (a, b), which stands for a / b.
"""
from math import gcd

from graftworth.errors import BadNumber, Malformed, NotNumber

FIELDS = (0, 2, 3, 5, 7, 11, 13, 17, 19, 23, 29, 31)
FIGURES = "0123456789"
MOST_FIGURES = 60
ZERO = (0, 1)
ONE = (1, 1)


def is_field(p):
    """Whether an integer tells a field."""
    return p in FIELDS


def check_field(p):
    """Raises BadNumber if an integer tells no field."""
    if not is_field(p):
        # The integer is not shown: Python refuses to write very large ones.
        raise BadNumber("the integer tells no field")


def is_number(p, x):
    """Whether a pair of integers is a number of the field."""
    check_field(p)
    a, b = x
    if p == 0:
        return b >= 1 and gcd(a, b) == 1
    return b == 1 and 0 <= a < p


def check_number(p, x):
    """Raises NotNumber if a pair of integers is not a number of the field."""
    if not is_number(p, x):
        raise NotNumber("the pair is not a number of the field")


def number(p, a, b=1):
    """The number whose product with b is a."""
    check_field(p)
    if p == 0:
        return _fraction(a, b)
    return _rest(p, a, b)


def _fraction(a, b):
    if b == 0:
        raise BadNumber("there is no fraction with the denominator 0")
    common = gcd(a, b)
    if b < 0:
        common = -common
    return (a // common, b // common)


def _rest(p, a, b):
    if b % p == 0:
        raise BadNumber("the prime divides the second integer")
    above = a % p
    below = b % p
    if below == 1:
        return (above, 1)
    rest = 0
    while rest * below % p != above:
        rest += 1
    return (rest, 1)


def _check_both(p, x, y):
    check_number(p, x)
    check_number(p, y)


def plus(p, x, y):
    """The sum of two numbers."""
    _check_both(p, x, y)
    return number(p, x[0] * y[1] + y[0] * x[1], x[1] * y[1])


def minus(p, x, y):
    """The first number less the second one."""
    _check_both(p, x, y)
    return number(p, x[0] * y[1] - y[0] * x[1], x[1] * y[1])


def times(p, x, y):
    """The product of two numbers."""
    _check_both(p, x, y)
    return number(p, x[0] * y[0], x[1] * y[1])


def over(p, x, y):
    """The number whose product with y is x."""
    _check_both(p, x, y)
    return number(p, x[0] * y[1], x[1] * y[0])


def number_text(p, x):
    """The text of a number."""
    check_number(p, x)
    a, b = x
    if b == 1:
        return _decimal(a)
    return _decimal(a) + "/" + _decimal(b)


def _decimal(whole):
    """The decimal form of an integer of any size, in chunks: Python's own conversion refuses more than 4300 figures."""
    sign = ""
    if whole < 0:
        sign = "-"
        whole = -whole
    chunk = 10 ** 64
    ends = []
    while whole >= chunk:
        whole, end = divmod(whole, chunk)
        ends.append(str(end).zfill(64))
    return sign + str(whole) + "".join(ends[::-1])


def read_number(p, text):
    """The number of the field with a text; raises Malformed(0) if there is none."""
    check_field(p)
    x = number_of_text(p, text)
    if x is None:
        raise Malformed(0)
    return x


def number_of_text(p, text):
    """The number of the field with a text, or None if there is none or one of its integers has too many figures."""
    above, slash, below = text.partition("/")
    if slash == "":
        below = "1"
    if not (_is_short_decimal(above) and _is_short_decimal(below)):
        return None
    x = (int(above), int(below))
    if not is_number(p, x) or number_text(p, x) != text:
        return None
    return x


def _is_short_decimal(text):
    """Whether a text is the decimal form of an integer of few enough figures."""
    figures = text[1:] if text.startswith("-") else text
    if not 1 <= len(figures) <= MOST_FIGURES:
        return False
    # isdigit would take figures of other scripts, too.
    if not all([sign in FIGURES for sign in figures]):
        return False
    return text == "0" or figures[0] != "0"
