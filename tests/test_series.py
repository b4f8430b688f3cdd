import unittest

from graftworth.errors import BadNumber, NoAnswer
from graftworth.series import added_series, multiplied_series, put_into, turned_signs, undoing
from support import Numbers


def whole_product(one, other):
    """The product of two polynomials, told by all of their terms from the power 0 on."""
    made = [0] * (len(one) + len(other) - 1)
    for first, x in enumerate(one):
        for second, y in enumerate(other):
            made[first + second] += x * y
    return made


def cut(polynomial, many):
    """The series of the terms of a polynomial from the power 1 on."""
    return (polynomial[1:] + [0] * many)[:many]


def composed(one, other):
    """The first series with the second one put into it, reckoned with all powers."""
    total = [0]
    for term in reversed([0] + one):
        total = whole_product(total, [0] + other)
        total[0] += term
    return cut(total, len(one))


def x_alone(many):
    return [1] + [0] * (many - 1)


def many_series(seed, bound):
    numbers = Numbers(seed)
    for many in range(1, 13):
        for _ in range(4):
            yield [numbers.between(-bound, bound) for _ in range(many)]


def pairs():
    found = []
    for bound in (1, 5, 10 ** 40):
        found.extend(zip(many_series(1, bound), many_series(2, bound)))
    return found


TOO_SHORT = []
TOO_LONG = [1] * 13
OF_TWO = [added_series, multiplied_series, put_into]


class SumsAndProducts(unittest.TestCase):
    def test_sums(self):
        for one, other in pairs():
            self.assertEqual(added_series(one, other), [one[k] + other[k] for k in range(len(one))])

    def test_products(self):
        for one, other in pairs():
            self.assertEqual(multiplied_series(one, other), cut(whole_product([0] + one, [0] + other), len(one)))

    def test_some_by_hand(self):
        self.assertEqual(added_series([1, 2], [10, -2]), [11, 0])
        self.assertEqual(multiplied_series([5], [7]), [0])
        self.assertEqual(multiplied_series([1, 2, 3], [4, 5, 6]), [0, 4, 13])

    def test_powers_stand_where_they_belong(self):
        for many in range(1, 13):
            for first in range(many):
                for second in range(many):
                    one = [1 if k == first else 0 for k in range(many)]
                    other = [1 if k == second else 0 for k in range(many)]
                    due = [1 if k == first + second + 1 else 0 for k in range(many)]
                    self.assertEqual(multiplied_series(one, other), due)


class PutInto(unittest.TestCase):
    def test_against_all_powers(self):
        for one, other in pairs():
            self.assertEqual(put_into(one, other), composed(one, other))

    def test_the_order_of_both(self):
        self.assertEqual(put_into([0, 1, 0, 0], [1, 1, 0, 0]), [0, 1, 2, 1])
        self.assertEqual(put_into([1, 1, 0, 0], [0, 1, 0, 0]), [0, 1, 0, 1])
        self.assertEqual(put_into([3], [4]), [12])

    def test_x_changes_nothing(self):
        for one in many_series(3, 10 ** 30):
            self.assertEqual(put_into(one, x_alone(len(one))), one)
            self.assertEqual(put_into(x_alone(len(one)), one), one)


class Undoing(unittest.TestCase):
    def test_on_either_side_and_twice(self):
        for bound in (1, 9, 10 ** 30):
            for first in (1, -1):
                for rest in many_series(5, bound):
                    one = [first] + rest[1:]
                    found = undoing(one)
                    self.assertEqual(len(found), len(one))
                    self.assertEqual(put_into(one, found), x_alone(len(one)))
                    self.assertEqual(put_into(found, one), x_alone(len(one)))
                    self.assertEqual(undoing(found), one)

    def test_examples(self):
        self.assertEqual(undoing([1, 1, 1, 1]), [1, -1, 1, -1])
        self.assertEqual(undoing([1, -1, 0, 0]), [1, 1, 2, 5])
        self.assertEqual(undoing([1, -1] + [0] * 10), [1, 1, 2, 5, 14, 42, 132, 429, 1430, 4862, 16796, 58786])
        self.assertEqual(undoing([1]), [1])
        self.assertEqual(undoing([-1]), [-1])
        self.assertEqual(undoing([-1, 3]), [-1, 3])

    def test_other_first_terms(self):
        for first in (0, 2, -2, 3, 10 ** 30, -10 ** 30):
            for many in range(1, 13):
                self.assertRaises(NoAnswer, undoing, [first] + [1] * (many - 1))

    def test_the_length_is_looked_at_first(self):
        self.assertRaises(BadNumber, undoing, [2] * 13)
        self.assertRaises(BadNumber, undoing, TOO_LONG)
        self.assertRaises(BadNumber, undoing, TOO_SHORT)


class TurnedSigns(unittest.TestCase):
    def test_odd_indexes(self):
        self.assertEqual(turned_signs([1, 2, 3, -4, 5]), [1, -2, 3, 4, 5])
        self.assertEqual(turned_signs([7]), [7])
        for one in many_series(6, 10 ** 30):
            self.assertEqual(turned_signs(one), [(-1) ** k * one[k] for k in range(len(one))])
            # The series is put into itself with the opposite of x, and made its opposite.
            opposite = [-term for term in x_alone(len(one))]
            self.assertEqual(turned_signs(one), [-term for term in put_into(one, opposite)])
            self.assertEqual(turned_signs(turned_signs(one)), one)


class WrongLists(unittest.TestCase):
    def test_lengths(self):
        for function in (undoing, turned_signs):
            self.assertRaises(BadNumber, function, TOO_SHORT)
            self.assertRaises(BadNumber, function, TOO_LONG)
            self.assertRaises(BadNumber, function, [1] * 40)
        for function in OF_TWO:
            for wrong in (TOO_SHORT, TOO_LONG):
                self.assertRaises(BadNumber, function, wrong, wrong)
                self.assertRaises(BadNumber, function, wrong, [1])
                self.assertRaises(BadNumber, function, [1], wrong)
                self.assertRaises(BadNumber, function, wrong, [1] * 12)
                self.assertRaises(BadNumber, function, [1] * 12, wrong)

    def test_different_numbers_of_terms(self):
        for function in OF_TWO:
            for one in range(1, 13):
                for other in range(1, 13):
                    if one != other:
                        self.assertRaises(BadNumber, function, [1] * one, [1] * other)

    def test_twelve_and_one_are_allowed(self):
        for function in OF_TWO:
            self.assertEqual(len(function([1] * 12, [1] * 12)), 12)
            self.assertEqual(len(function([1], [1])), 1)
        self.assertEqual(len(undoing([1] * 12)), 12)
        self.assertEqual(len(turned_signs([1] * 12)), 12)


class ListsOfTheirOwn(unittest.TestCase):
    def test_arguments_stay(self):
        for function in OF_TWO:
            one, other = [1, 2, 3], [1, 5, 6]
            function(one, other)
            self.assertEqual((one, other), ([1, 2, 3], [1, 5, 6]))
            function(one, one)
            self.assertEqual(one, [1, 2, 3])
        for function in (undoing, turned_signs):
            one = [1, 2, 3]
            function(one)
            self.assertEqual(one, [1, 2, 3])

    def test_results_are_new(self):
        for series in ([1], [1, 0, 0], [1, 2, 3]):
            x = x_alone(len(series))
            for function in (undoing, turned_signs):
                self.check_new(lambda: function(series), [series])
            for function in OF_TWO:
                self.check_new(lambda: function(series, x), [series, x])
                self.check_new(lambda: function(x, series), [series, x])
                self.check_new(lambda: function(x, x), [x])
                self.check_new(lambda: function(series, [0] * len(x)), [series])

    def check_new(self, call, arguments):
        first, second = call(), call()
        self.assertIsInstance(first, list)
        self.assertIsNot(first, second)
        for argument in arguments:
            self.assertIsNot(first, argument)
        first.append("changed")
        self.assertEqual(call(), second)
