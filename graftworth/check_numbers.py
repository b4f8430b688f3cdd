"""Numbers of fields for the checker, which imports none of the other parts of the program."""

FIELDS = (0, 2, 3, 5, 7, 11, 13, 17, 19, 23, 29, 31)
ZERO = (0, 1)
ONE = (1, 1)


def tells_field(p):
    """Whether an integer tells a field."""
    return p in FIELDS


def is_number_of(p, x):
    """Whether a pair is a number of the field."""
    # Where a row is due a paper may be handed in, whose pairs are none of integers.
    if not all([isinstance(part, int) for part in x]):
        return False
    a, b = x
    if p == 0:
        return b >= 1 and _divisor(a, b) == 1
    return b == 1 and 0 <= a < p


def _divisor(a, b):
    """The greatest common divisor of two integers."""
    while b != 0:
        a, b = b, a % b
    return abs(a)


def _fraction(a, b):
    """The fraction a / b in lowest terms; b is not 0."""
    common = _divisor(a, b)
    if b < 0:
        common = -common
    return (a // common, b // common)


def added(p, x, y):
    """The sum of two numbers."""
    if p == 0:
        return _fraction(x[0] * y[1] + y[0] * x[1], x[1] * y[1])
    return ((x[0] + y[0]) % p, 1)


def multiplied(p, x, y):
    """The product of two numbers."""
    if p == 0:
        return _fraction(x[0] * y[0], x[1] * y[1])
    return (x[0] * y[0] % p, 1)


def negative(p, x):
    """The number with the opposite sign."""
    if p == 0:
        return (-x[0], x[1])
    return (-x[0] % p, 1)


def divided(p, x, y):
    """The number whose product with y, which is not 0, is x."""
    if p == 0:
        return _fraction(x[0] * y[1], x[1] * y[0])
    rest = 0
    while rest * y[0] % p != x[0]:
        rest += 1
    return (rest, 1)


def added_in(p, numbers, others, x):
    """The dict of numbers of one thing and another one that is multiplied by a number; what becomes 0 is left out."""
    made = {key: y for key, y in numbers.items()}
    for key, y in others.items():
        made[key] = added(p, made.get(key, ZERO), multiplied(p, x, y))
    return {key: y for key, y in made.items() if y != ZERO}
