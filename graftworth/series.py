"""Series: lists of one to twelve integers; the one with the index i stands before the power i + 1 of a letter x."""
from graftworth.errors import BadNumber, NoAnswer

MOST_TERMS = 12


def _check_series(series):
    if not 1 <= len(series) <= MOST_TERMS:
        raise BadNumber("a series has one to twelve terms")


def _check_alike_long(one, other):
    _check_series(one)
    if len(one) != len(other):
        raise BadNumber("the series have different numbers of terms")


def added_series(one, other):
    """The sum of two series."""
    _check_alike_long(one, other)
    return [x + y for x, y in zip(one, other)]


def multiplied_series(one, other):
    """The product of two series, without the higher powers."""
    _check_alike_long(one, other)
    made = [0] * len(one)
    for first, x in enumerate(one):
        for second in range(len(one) - first - 1):
            # The powers first + 1 and second + 1 together are the power with this index and 1.
            made[first + second + 1] += x * other[second]
    return made


def put_into(one, other):
    """The first series with the second one in the place of x."""
    _check_alike_long(one, other)
    made = [0] * len(one)
    power = other
    for term in one:
        made = [x + term * y for x, y in zip(made, power)]
        power = multiplied_series(power, other)
    return made


def undoing(series):
    """The series which, put into this one, makes x."""
    _check_series(series)
    first = series[0]
    if first not in (1, -1):
        raise NoAnswer("no series with integers undoes one whose first term is neither 1 nor -1")
    found = [0] * len(series)
    for index in range(len(series)):
        due = 1 if index == 0 else 0
        # A term of what is found changes the term with its own index by `first` times itself, and no earlier one.
        found[index] = first * (due - put_into(series, found)[index])
    return found


def turned_signs(series):
    """The series with the opposite sign at each odd index."""
    _check_series(series)
    return [-term if index % 2 == 1 else term for index, term in enumerate(series)]
