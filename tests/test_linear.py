import unittest

from graftworth.errors import BadNumber, NotMatrix, NotNumber
from graftworth.linear import clash, echelon, is_matrix, kernel, rank, solution
import support
from support import FIELDS, WRONG_FIELDS

ZERO = (0, 1)
ONE = (1, 1)
SHAPES = [(0, 0), (1, 0), (3, 0), (1, 1), (1, 4), (4, 1), (3, 3), (2, 5), (5, 2), (4, 6), (6, 4), (5, 5)]
WRONG_PAIRS = {0: [(2, 2), (1, 0), (1, -1), (0, 2), (0, 0)], 5: [(5, 1), (-1, 1), (1, 2), (0, 0)]}


def matrices(fields=FIELDS, count=4):
    """Matrices of many shapes, some of them with rows of 0, or with rows that come from others."""
    numbers = support.Numbers(17)
    for p in fields:
        for rows, columns in SHAPES:
            for way in range(count):
                made = [[support.some_number(numbers, p) for _ in range(columns)] for _ in range(rows)]
                if way == 1:
                    made = [row if numbers.below(2) else [ZERO] * columns for row in made]
                if way == 2 and rows > 1:
                    made[-1] = list(made[0])
                    made[rows // 2] = [support.pair(p, 2 * support.worth(p, x)) for x in made[0]]
                if way == 3:
                    made = [[x if numbers.below(3) == 0 else ZERO for x in row] for row in made]
                yield p, made


def worths(p, matrix):
    return [[support.worth(p, x) for x in row] for row in matrix]


def taken(p, matrix, vector):
    """What a vector is taken to."""
    rows = worths(p, matrix)
    return [support.pair(p, sum(x * support.worth(p, y) for x, y in zip(row, vector))) for row in rows]


def leading(form):
    return [next(at for at, x in enumerate(row) if x != ZERO) for row in form]


class Echelon(unittest.TestCase):
    def test_against_plain_elimination(self):
        for p, matrix in matrices():
            due = [[support.pair(p, w) for w in row] for row in support.reduced(p, worths(p, matrix))]
            self.assertEqual(echelon(p, matrix), due)
            self.assertEqual(rank(p, matrix), len(due))

    def test_form(self):
        for p, matrix in matrices():
            form = echelon(p, matrix)
            columns = leading(form)
            self.assertEqual(columns, sorted(set(columns)))
            for index, column in enumerate(columns):
                self.assertEqual([row[column] for row in form], [ONE if at == index else ZERO for at in range(len(form))])
            self.assertEqual(echelon(p, form), form)
            self.assertEqual(echelon(p, matrix + form), form)
            self.assertEqual(echelon(p, matrix[::-1]), form)

    def test_example(self):
        matrix = [[(1, 1), (2, 1), (3, 1)], [(2, 1), (4, 1), (7, 1)]]
        self.assertEqual(echelon(0, matrix), [[(1, 1), (2, 1), (0, 1)], [(0, 1), (0, 1), (1, 1)]])
        self.assertEqual(kernel(0, matrix), [[(-2, 1), (1, 1), (0, 1)]])
        self.assertEqual(rank(0, matrix), 2)

    def test_small_ones(self):
        self.assertEqual(echelon(0, []), [])
        self.assertEqual(echelon(0, [[], []]), [])
        self.assertEqual(echelon(0, [[ZERO, ZERO]]), [])
        self.assertEqual(echelon(0, [[(-2, 3)]]), [[ONE]])
        self.assertEqual(echelon(0, [[ZERO, (2, 1), (1, 3)]]), [[ZERO, ONE, (1, 6)]])
        self.assertEqual(echelon(3, [[(2, 1), (1, 1)]]), [[ONE, (2, 1)]])
        self.assertEqual([rank(0, []), rank(0, [[]]), rank(2, [[ONE, ONE], [ONE, ONE]])], [0, 0, 1])

    def test_the_field_matters(self):
        two = [[ONE, ONE], [ONE, (2, 1)]]
        self.assertEqual(rank(0, two), 2)
        self.assertEqual(rank(3, [[ONE, (2, 1)], [(2, 1), ONE]]), 1)
        self.assertEqual(rank(5, [[ONE, (2, 1)], [(2, 1), ONE]]), 2)

    def test_large_integers(self):
        large = 10 ** 400
        matrix = [[(large, 1), (1, large + 1)], [(1, large), (large - 1, large + 1)]]
        due = [[support.pair(0, w) for w in row] for row in support.reduced(0, worths(0, matrix))]
        self.assertEqual(echelon(0, matrix), due)
        row = [[(large, 3), (1, 7)]]
        self.assertEqual(echelon(0, row), [[ONE, support.pair(0, support.worth(0, (3, 7)) / large)]])

    def test_larger_ones(self):
        numbers = support.Numbers(30)
        for p, rows, columns in ((0, 20, 25), (0, 25, 18), (31, 40, 50), (2, 60, 40)):
            matrix = [[support.some_number(numbers, p) for _ in range(columns)] for _ in range(rows)]
            due = [[support.pair(p, w) for w in row] for row in support.reduced(p, worths(p, matrix))]
            self.assertEqual(echelon(p, matrix), due)


class Kernel(unittest.TestCase):
    def test_basis(self):
        for p, matrix in matrices():
            columns = len(matrix[0]) if matrix else 0
            found = kernel(p, matrix)
            leads = leading(echelon(p, matrix))
            free = [column for column in range(columns) if column not in leads]
            self.assertEqual(len(found), len(free))
            for column, vector in zip(free, found):
                self.assertEqual(len(vector), columns)
                self.assertEqual(taken(p, matrix, vector), [ZERO] * len(matrix))
                self.assertEqual([vector[at] for at in free], [ONE if at == column else ZERO for at in free])

    def test_small_ones(self):
        self.assertEqual(kernel(0, []), [])
        self.assertEqual(kernel(0, [[], []]), [])
        self.assertEqual(kernel(0, [[ZERO, ZERO]]), [[ONE, ZERO], [ZERO, ONE]])
        self.assertEqual(kernel(0, [[ONE, ZERO], [ZERO, (5, 1)]]), [])
        self.assertEqual(kernel(3, [[ONE, ONE]]), [[(2, 1), ONE]])


class Solutions(unittest.TestCase):
    def check(self, p, matrix, right):
        found = solution(p, matrix, right)
        told = clash(p, matrix, right)
        self.assertIs(found is None, told is not None)
        columns = len(matrix[0]) if matrix else 0
        if found is not None:
            self.assertEqual(len(found), columns)
            self.assertEqual(taken(p, matrix, found), right)
            leads = leading(echelon(p, matrix))
            for column in range(columns):
                self.assertTrue(column in leads or found[column] == ZERO)
        else:
            self.assertEqual(len(told), len(matrix))
            turned = [[row[column] for row in matrix] for column in range(columns)]
            self.assertEqual(taken(p, turned + [right], told), [ZERO] * columns + [ONE])
        return found

    def test_each_has_one_of_both(self):
        numbers = support.Numbers(23)
        seen = {True: 0, False: 0}
        for p, matrix in matrices():
            columns = len(matrix[0]) if matrix else 0
            right = [support.some_number(numbers, p) for _ in matrix]
            seen[self.check(p, matrix, right) is None] += 1
            vector = [support.some_number(numbers, p) for _ in range(columns)]
            self.assertIsNotNone(self.check(p, matrix, taken(p, matrix, vector)))
            self.assertEqual(self.check(p, matrix, [ZERO] * len(matrix)), [ZERO] * columns)
        self.assertGreater(min(seen.values()), 50)

    def test_small_ones(self):
        self.assertEqual(solution(0, [], []), [])
        self.assertIsNone(clash(0, [], []))
        self.assertEqual(solution(0, [[], []], [ZERO, ZERO]), [])
        self.assertIsNone(clash(0, [[], []], [ZERO, ZERO]))
        self.assertIsNone(solution(0, [[], []], [ZERO, (2, 1)]))
        self.check(0, [[], []], [ZERO, (2, 1)])
        self.check(0, [[], []], [(3, 1), (2, 1)])
        self.assertEqual(solution(0, [[(2, 1), (4, 1)]], [(3, 1)]), [(3, 2), ZERO])
        self.assertEqual(solution(7, [[(2, 1)], [(4, 1)]], [(3, 1), (6, 1)]), [(5, 1)])
        self.assertIsNone(solution(7, [[(2, 1)], [(4, 1)]], [(3, 1), (5, 1)]))
        self.check(7, [[(2, 1)], [(4, 1)]], [(3, 1), (5, 1)])

    def test_large_ones(self):
        self.check(0, [[ONE] * 400] * 300, [ONE] * 300)
        self.check(0, [[ONE] * 400] * 300, [ONE] * 299 + [ZERO])
        steps = [[ONE if column in (row, row + 1) else ZERO for column in range(400)] for row in range(300)]
        self.check(0, steps, [(row, 1) for row in range(300)])
        self.assertEqual(rank(2, steps), 300)
        self.check(5, [[ONE] * 0] * 300, [ZERO] * 299 + [ONE])


class Matrices(unittest.TestCase):
    def test_those_that_are(self):
        for p, matrix in matrices():
            self.assertIs(is_matrix(p, matrix), True)
        for rows, columns in ((300, 400), (300, 1), (1, 400), (300, 0)):
            self.assertIs(is_matrix(0, [[ZERO] * columns] * rows), True)
            self.assertEqual(echelon(0, [[ZERO] * columns] * rows), [])
        self.assertEqual(rank(0, [[ONE] * 400] * 300), 1)
        self.assertEqual(len(kernel(31, [[ONE] * 400] * 300)), 399)

    def wrong(self):
        for rows, columns in ((301, 0), (301, 1), (301, 400), (1, 401), (300, 401), (0, 0)):
            if rows:
                yield 0, [[ZERO] * columns for _ in range(rows)]
        for lengths in ((1, 2), (2, 1), (0, 1), (1, 0), (3, 3, 2), (400, 401)):
            yield 0, [[ONE] * many for many in lengths]
        for p, pairs in WRONG_PAIRS.items():
            for x in pairs:
                yield p, [[x]]
                yield p, [[ONE, ZERO], [ZERO, x]]
                yield p, [[ONE, x], [ZERO, ONE]]

    def test_those_that_are_none(self):
        for p, matrix in self.wrong():
            self.assertIs(is_matrix(p, matrix), False)
            for function in (echelon, rank, kernel):
                self.assertRaises(NotMatrix, function, p, matrix)
            for right in ([], [ZERO] * len(matrix), [(2, 2)]):
                self.assertRaises(NotMatrix, solution, p, matrix, right)
                self.assertRaises(NotMatrix, clash, p, matrix, right)

    def test_fields_first(self):
        for p in WRONG_FIELDS:
            for matrix in ([], [[ONE]], [[(2, 2)]], [[ZERO]] * 301):
                for function in (is_matrix, echelon, rank, kernel):
                    self.assertRaises(BadNumber, function, p, matrix)
                self.assertRaises(BadNumber, solution, p, matrix, [(2, 2)])
                self.assertRaises(BadNumber, clash, p, matrix, [(2, 2)])

    def test_entries_of_the_list_then_their_number(self):
        for p, pairs in WRONG_PAIRS.items():
            for x in pairs:
                for right in ([x], [ONE, x], [x, ONE, ONE], [ONE, ONE, x]):
                    self.assertRaises(NotNumber, solution, p, [[ONE], [ONE]], right)
                    self.assertRaises(NotNumber, clash, p, [[ONE], [ONE]], right)
        for right in ([], [ONE], [ONE] * 3, [ONE] * 500):
            self.assertRaises(BadNumber, solution, 0, [[ONE], [ONE]], right)
            self.assertRaises(BadNumber, clash, 0, [[ONE], [ONE]], right)
        self.assertRaises(BadNumber, solution, 0, [], [ONE])
        self.assertRaises(BadNumber, clash, 0, [], [ONE])

    def test_arguments_stay(self):
        for p, matrix in matrices((0, 3)):
            copy = [list(row) for row in matrix]
            right = [ONE] * len(matrix)
            for made in (echelon(p, matrix), kernel(p, matrix), [solution(p, matrix, right)], [clash(p, matrix, right)]):
                for row in made:
                    if row is not None:
                        row.append("x")
                made.append("y")
            self.assertEqual(matrix, copy)
            self.assertEqual(right, [ONE] * len(matrix))
            form = echelon(p, matrix)
            echelon(p, form)[:1] = []
            self.assertEqual(echelon(p, form), form)
