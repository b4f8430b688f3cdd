import itertools
import unittest

from graftworth.alike import are_alike
from graftworth.books import Book, read_book
from graftworth.errors import BadNumber, NotBook, NotKinds, NotSum, TooLarge
from graftworth.sums import Sum, read_sum
from graftworth.witnesses import is_told_world, obeys_told, parts_told
from graftworth.worlds import is_world, obeys, sum_value, told_world, unit
import support
from test_worlds import (
    BOOKS, EXAMPLE, ONE, WORLD, just, random_sum, random_vector, random_world, row, some_worlds, unit_rows, value_of_terms, with_rows,
    wrong_worlds,
)

RELATIONS = [[("aa...", (1, 1)), ("a.a..", (-1, 1))]]


def told(book, world):
    return obeys_told(book.p, book.kinds, support.told_relations(book), world)


def parted(world, one, other, vectors):
    return parts_told(world, support.told_terms(one), support.told_terms(other), vectors)


def told_worlds():
    for text, most in BOOKS:
        for width in range(1, most + 1):
            yield read_book(text), width


class WhatWorldsAre(unittest.TestCase):
    def test_right(self):
        for world in some_worlds():
            self.assertIs(is_told_world(world), True)
        for book, width in told_worlds():
            self.assertIs(is_told_world(told_world(book, width)), True)
        for dimension in (1, 39, 40):
            self.assertIs(is_told_world(with_rows([row((dimension - 1, 0), (dimension - 1, ONE))], 0, (2,), dimension)), True)
        for kinds in support.ALL_KINDS:
            for p in support.FIELDS:
                self.assertIs(is_told_world((p, kinds, 1, ((),) * len(kinds))), True)

    def test_wrong(self):
        for world in wrong_worlds():
            self.assertIs(is_told_world(world), False)

    def test_one_thing_changed(self):
        verdicts = {True: 0, False: 0}
        for world in [WORLD, told_world(read_book(EXAMPLE), 3)] + list(some_worlds())[:12]:
            for changed in list(support.mutants(world[3], "a")):
                made = world[:3] + (changed,)
                self.assertIs(is_told_world(made), is_world(made))
                verdicts[is_world(made)] += 1
        self.assertGreater(min(verdicts.values()), 100)


class Obeying(unittest.TestCase):
    def test_told_worlds(self):
        for book, width in told_worlds():
            self.assertIs(told(book, told_world(book, width)), True)

    def test_other_worlds(self):
        numbers = support.Numbers(81)
        verdicts = {True: 0, False: 0}
        for p in (0, 2, 5):
            for kinds in ((2,), (3,), (2, 2)):
                for case in range(60):
                    world = random_world(numbers, p, kinds, 2, 2)
                    size, width = ((2, 2 * kinds[0] - 1), (1, kinds[0]), (3, 4))[case % 3]
                    relations = [random_sum(numbers, p, kinds, size, width, 2) for _ in range(1 + case % 2)]
                    book = Book(p, kinds, [one for one in relations if one])
                    due = all(value_of_terms(world, one, vectors) == [(0, 1)] * 2
                              for one in book.relations() for _, vectors in unit_rows(world, width))
                    self.assertIs(told(book, world), due)
                    self.assertIs(obeys(world, book), due)
                    verdicts[due] += 1
        self.assertGreater(min(verdicts.values()), 40)

    def test_one_thing_changed(self):
        verdicts = {True: 0, False: 0}
        for text, width in BOOKS:
            book = read_book(text)
            world = told_world(book, min(width, 3))
            changed = list(support.mutants(world[3], "a"))
            for tables in changed[::1 + len(changed) // 40]:
                made = world[:3] + (tables,)
                if any(made[2] ** one.width > 2000 for one in book.relations()):
                    continue
                due = is_world(made) and all(
                    value_of_terms(made, one, vectors) == [(0, 1)] * made[2]
                    for one in book.relations() for _, vectors in unit_rows(made, one.width))
                self.assertIs(told(book, made), due)
                verdicts[due] += 1
        self.assertGreater(min(verdicts.values()), 30)

    def test_another_field_or_other_kinds(self):
        world = (0, (2,), 2, ((),))
        self.assertIs(obeys_told(0, (2,), RELATIONS, world), True)
        self.assertIs(obeys_told(0, (2,), [], world), True)
        for p, kinds, relations in ((3, (2,), []), (0, (3,), []), (0, (2, 2), []), (0, (2, 2), RELATIONS)):
            self.assertIs(obeys_told(p, kinds, relations, world), False)
        for wrong in wrong_worlds():
            self.assertIs(obeys_told(0, (2,), [], wrong), False)
            self.assertIs(obeys_told(0, (2,), RELATIONS, wrong), False)

    def full(self, dimension):
        indexes = itertools.product(range(dimension), repeat=2)
        return with_rows([row(some, (0, ONE)) for some in indexes], 0, (2,), dimension)

    def test_too_many_rows(self):
        world = self.full(8)
        deep, wide = "aaaa.....", "aa..aa..."
        self.assertIs(obeys_told(0, (2,), [[("aaa....", (1, 1)), ("aa..a..", (-1, 1))]], world), True)
        self.assertIs(obeys_told(0, (2,), [[("aaa....", (1, 1)), ("aa..a..", (1, 1))]], world), False)
        self.assertIs(obeys_told(0, (2,), RELATIONS, self.full(16)), True)
        for word in (deep, wide):
            self.assertRaises(TooLarge, obeys_told, 0, (2,), [[(word, (1, 1))]], world)
        self.assertRaises(TooLarge, obeys_told, 0, (2,), [[(deep, (1, 1)), (wide, (-1, 1))]], world)
        self.assertRaises(TooLarge, obeys_told, 0, (2,), RELATIONS, self.full(17))
        self.assertRaises(TooLarge, obeys_told, 0, (2,), [[("aaa....", (1, 1)), ("aa..a..", (-1, 1))], [(deep, (1, 1)), (wide, (-1, 1))]], world)
        self.assertIs(obeys_told(0, (3,), [[("a...", (1, 1))]], just(4096)), False)
        self.assertRaises(TooLarge, obeys_told, 0, (3,), [[("a...", (1, 1))]], just(4097))
        try:
            self.assertIs(obeys_told(0, (2,), [[("a..", (1, 1))], [(deep, (1, 1))]], world), False)
        except TooLarge:
            pass

    def test_too_many_rows_of_a_part(self):
        indexes = list(itertools.product(range(17), repeat=2))
        second = tuple(row((1, at), (1, ONE)) for at in range(17))
        world = (0, (2, 2), 17, (tuple(row(some, (0, ONE)) for some in indexes), second))
        self.assertIs(obeys_told(0, (2, 2), [[("ba...", (1, 1))]], world), True)
        self.assertRaises(TooLarge, obeys_told, 0, (2, 2), [[("baa....", (1, 1))]], world)
        self.assertRaises(TooLarge, obeys_told, 0, (2, 2), [[("bba...aa...", (1, 1))]], world)

    def test_wrong_books_come_first(self):
        world = (0, (2,), 0, ())
        for p in support.WRONG_FIELDS:
            self.assertRaises(BadNumber, obeys_told, p, (), [[]], world)
        for kinds in support.WRONG_KINDS:
            self.assertRaises(NotKinds, obeys_told, 0, kinds, [[]], world)
        for relation in ([], [("", (1, 1))], [("b..", (1, 1))], RELATIONS[0] * 2, [("aa...", (2, 2))], [("aa...", (0, 1))],
                         [("aa...", (1, 1)), ("a..", (1, 1))], [(".", (1, 1))], [("a" * 7 + "." * 8, (1, 1))]):
            for relations in ([relation], RELATIONS + [relation]):
                self.assertRaises(NotBook, obeys_told, 0, (2,), relations, world)
        self.assertRaises(NotBook, obeys_told, 0, (2,), RELATIONS * 11, world)
        self.assertIs(obeys_told(0, (2,), RELATIONS * 10, (0, (2,), 1, ((),))), True)


class Parting(unittest.TestCase):
    def test_values_that_differ(self):
        numbers = support.Numbers(82)
        verdicts = {True: 0, False: 0}
        for world in some_worlds():
            p, kinds = world[:2]
            for size, width in ((0, 1), (1, kinds[0]), (2, 2 * kinds[0] - 1), (2, 4)):
                for _ in range(3):
                    one, other = random_sum(numbers, p, kinds, size, width), random_sum(numbers, p, kinds, size, width)
                    vectors = [random_vector(numbers, world) for _ in range(width)]
                    due = value_of_terms(world, one, vectors) != value_of_terms(world, other, vectors)
                    if one or other:
                        self.assertIs(parted(world, one, other, vectors), due)
                        verdicts[due] += 1
        self.assertGreater(min(verdicts.values()), 80)

    def test_told_worlds_part_what_is_not_alike(self):
        numbers = support.Numbers(83)
        for book, width in told_worlds():
            world = told_world(book, width)
            vectors = [unit(world, at) for at in range(width)]
            for size in range(width):
                one, other = [random_sum(numbers, book.p, book.kinds, size, width) for _ in range(2)]
                if one or other:
                    self.assertIs(parted(world, one, other, vectors), not are_alike(book, one, other))

    def test_no_accepted_world_parts_what_is_alike(self):
        numbers = support.Numbers(84)
        accepted = 0
        for text, width in BOOKS:
            book = read_book(text)
            worlds = [told_world(book, wide) for wide in range(1, min(width, 3) + 1)]
            worlds.extend(random_world(numbers, book.p, book.kinds, 2, 1) for _ in range(20))
            for world in worlds:
                if not told(book, world):
                    continue
                accepted += 1
                for size, wide in ((1, book.kinds[0]), (2, 2 * book.kinds[0] - 1)):
                    one, other = [random_sum(numbers, book.p, book.kinds, size, wide) for _ in range(2)]
                    vectors = [random_vector(numbers, world) for _ in range(wide)]
                    if are_alike(book, one, other):
                        self.assertIs(parted(world, one, other, vectors), False)
        self.assertGreater(accepted, 100)

    def test_terms_in_any_order(self):
        first, second = unit(WORLD, 0), unit(WORLD, 1)
        vectors = [first, first, second]
        one, other = read_sum("0 2 2 3 1 aa..."), read_sum("0 2 2 3 1 a.a..")
        self.assertNotEqual(sum_value(WORLD, one, vectors), sum_value(WORLD, other, vectors))
        zero = ("a.a..", (0, 1))
        for terms in ([("aa...", ONE)], [zero, ("aa...", ONE)], [("aa...", (1, 2))] * 2, [("aa...", (3, 1)), zero, ("aa...", (-2, 1))]):
            self.assertIs(parts_told(WORLD, terms, [("a.a..", ONE)], vectors), True)
            self.assertIs(parts_told(WORLD, [("a.a..", ONE)], terms, vectors), True)
            self.assertIs(parts_told(WORLD, terms, [("aa...", ONE)], vectors), False)
            self.assertIs(parts_told(WORLD, terms, [], vectors), True)
            self.assertIs(parts_told(WORLD, [], terms, vectors), True)

    def test_lists_without_terms(self):
        for vectors in ([], [unit(WORLD, 0)], [unit(WORLD, 0)] * 3, [[(1, 0)]]):
            self.assertIs(parts_told(WORLD, [], [], vectors), False)
        zero = [("a..", (0, 1))]
        for vectors in ([], [unit(WORLD, 0)] * 2, [[(1, 0)]] * 2):
            self.assertIs(parts_told(WORLD, zero, [], vectors), False)
            self.assertIs(parts_told(WORLD, zero, zero, vectors), False)

    def test_wrong_vectors(self):
        one, other = [("a..", ONE)], []
        good = [(1, 1), (0, 1)]
        self.assertIs(parts_told(WORLD, one, other, [good, good]), True)
        for vectors in ([], [good], [good] * 3, [good, good[:1]], [good[:1], good], [good + good, good], [good, good + good[:1]], [good, []],
                        [[], []], [[], good], [good, good, []]):
            self.assertIs(parts_told(WORLD, one, other, vectors), False)
        for x in ((2, 2), (1, 0), (1, -1), (0, 2), (0, 0)):
            self.assertIs(parts_told(WORLD, one, other, [[x, ONE], good]), False)
            self.assertIs(parts_told(WORLD, one, other, [good, [ONE, x]]), False)
        five = with_rows([row((0, 0), (0, ONE))], 5)
        self.assertIs(parts_told(five, one, other, [good, good]), True)
        for x in ((5, 1), (-1, 1), (1, 2)):
            self.assertIs(parts_told(five, one, other, [[ONE, x], good]), False)

    def test_no_worlds(self):
        for world in wrong_worlds():
            self.assertIs(parts_told(world, [("a..", ONE)], [], [[ONE, ONE]] * 2), False)
            self.assertIs(parts_told(world, [], [], []), False)

    def test_wrong_sums(self):
        good, vectors = [("a..", ONE)], [[(1, 0)]]
        for terms in ([("", ONE)], [("b..", ONE)], [("a...", ONE)], [("a..", (2, 2))], [("a..", (0, 2))], [("a..", ONE), ("aa...", ONE)],
                      [("a..", ONE), (".", (0, 1))], [("a" * 10 + "." * 11, ONE)]):
            for one, other in ((terms, good), (good, terms), (terms, []), ([], terms), (terms, [("aa...", ONE)])):
                self.assertRaises(NotSum, parts_told, WORLD, one, other, vectors)
        for word in (".", "aa...", "aaa...."):
            for x in (ONE, (0, 1)):
                self.assertRaises(BadNumber, parts_told, WORLD, good, [(word, x)], vectors)
                self.assertRaises(BadNumber, parts_told, WORLD, [(word, x)], good, vectors)
        mixed = (0, (2, 3), 1, ((), ()))
        self.assertRaises(NotSum, parts_told, mixed, [("aa...", ONE), ("ab....", ONE)], [], [])
        self.assertRaises(BadNumber, parts_told, mixed, [("aa...", ONE)], [("ab....", ONE)], [])
        self.assertRaises(NotSum, parts_told, with_rows([], 5), [("a..", (5, 1))], [], [])

    def test_arguments_stay(self):
        terms, others, vectors = [("a..", ONE)] * 2, [("a..", (0, 1))], [[(1, 1), (0, 1)]] * 2
        parts_told(WORLD, terms, others, vectors)
        self.assertEqual((terms, others, vectors), ([("a..", ONE)] * 2, [("a..", (0, 1))], [[(1, 1), (0, 1)]] * 2))
        relations = [list(RELATIONS[0])]
        obeys_told(0, (2,), relations, WORLD)
        self.assertEqual(relations, RELATIONS)
        self.assertEqual(Sum(0, (2,), 1, 2, terms).terms(), [("a..", (2, 1))])
