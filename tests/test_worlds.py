import fractions
import itertools
import unittest

from graftworth.alike import are_alike, kept_trees, plain
from graftworth.books import Book, placed, placings, read_book, text_of_book
from graftworth.errors import BadNumber, NotNumber, NotTree, NotWorld, TooLarge
from graftworth.sums import Sum, read_sum, text_of_sum, zero_sum
from graftworth.worlds import (
    check_world, is_world, names, obeys, sum_value, table, told_value, told_world, unit, value,
)
import support

EXAMPLE = "0 2 ; 2 3 -1 a.a.. 1 aa..."
# The book, and the greatest width of a told world of at most 40 dimensions.
BOOKS = [
    ("0 2", 5), (EXAMPLE, 5), ("3 2 ; 2 3 1 a.a.. 1 aa...", 5), ("0 3", 5), ("2 3 ; 2 5 1 a..a... 1 aa.....", 5),
    ("5 22 ; 1 2 1 a.. 2 b..", 4), ("0 22", 3), ("0 22 ; 2 3 1 a.b.. 1 ba... ; 2 3 1/2 ab...", 3), ("7 23 ; 2 4 1 ab.... 3 ba....", 3),
    ("0 2 ; 1 2 3 a..", 5), ("0 232 ; 1 2 1 a.. -3 c.. ; 2 3 1 aa...", 3), ("31 2 ; 3 4 5 a.aa... 1 aaa....", 5),
    ("0 2 ; 2 3 1/3 a.a.. 1 aa...", 5),
]
# Twice a number of the first unit vector, and products that depend on the order.
WORLD = (0, (2,), 2, ((((0, 0), ((0, (1, 2)), (1, (3, 1)))), ((0, 1), ((0, (-2, 1)),)), ((1, 0), ((1, (5, 3)),))),))
WRONG_NUMBERS = {0: [(2, 4), (0, 2), (1, 0), (1, -1), (0, 0)], 5: [(5, 1), (-1, 1), (1, 2), (6, 1), (1, 0)]}


def random_world(numbers, p, kinds, dimension, rows=6):
    tables = []
    for held in kinds:
        found = {}
        for _ in range(rows):
            indexes = tuple(numbers.below(dimension) for _ in range(held))
            entries = {numbers.below(dimension): support.not_zero(numbers, p) for _ in range(numbers.between(1, 3))}
            found[indexes] = tuple(sorted(entries.items()))
        tables.append(tuple(sorted(found.items())))
    return (p, kinds, dimension, tuple(tables))


def some_worlds():
    numbers = support.Numbers(33)
    for p in (0, 2, 5, 31):
        for kinds in support.SOME_KINDS:
            for dimension in (1, 2, 3):
                yield random_world(numbers, p, kinds, dimension)


def random_vector(numbers, world):
    return [support.some_number(numbers, world[0]) for _ in range(world[2])]


def model_value(world, model, vectors):
    """The value of a model tree as fractions or rests; takes the vectors from the front of a list."""
    p, _, dimension, tables = world
    if model is None:
        return [support.worth(p, x) for x in vectors.pop(0)]
    inner = [model_value(world, part, vectors) for part in model[1]]
    told = dict(tables["abc".index(model[0])])
    made = [0] * dimension
    for indexes in itertools.product(range(dimension), repeat=len(inner)):
        by = 1
        for vector, index in zip(inner, indexes):
            by = by * vector[index]
        for index, x in told.get(indexes, ()):
            made[index] += by * support.worth(p, x)
    return [w % p for w in made] if p else made


def value_of_terms(world, one, vectors):
    made = [0] * world[2]
    for tree, w in support.as_dict(one).items():
        inner = model_value(world, support.model_of(world[1], tree), list(vectors))
        made = [x + w * y for x, y in zip(made, inner)]
    return as_numbers(world[0], made)


def as_numbers(p, made):
    return [support.pair(p, w) for w in made]


def unit_rows(world, width):
    units = [[(1, 1) if at == index else (0, 1) for at in range(world[2])] for index in range(world[2])]
    for indexes in itertools.product(range(world[2]), repeat=width):
        yield indexes, [units[index] for index in indexes]


def random_sum(numbers, p, kinds, size, width, most=4):
    return Sum(p, kinds, size, width, support.random_terms(numbers, p, kinds, size, width, most))


def changed(world, **parts):
    told = dict(zip(("p", "kinds", "dimension", "tables"), world))
    told.update(parts)
    return tuple(told.values())


def with_rows(rows, p=0, kinds=(2,), dimension=2):
    return (p, kinds, dimension, (tuple(rows),))


def row(indexes, *entries):
    return (indexes, entries)


ONE = (1, 1)
WRONG_TABLES = [
    [row((1, 0), (0, ONE)), row((0, 1), (0, ONE))],
    [row((0, 1), (0, ONE)), row((0, 1), (1, ONE))],
    [row((0, 1), (0, ONE)), row((0, 1), (0, ONE))],
    [row((0, 0), (0, ONE)), row((1, 1), (0, ONE)), row((1, 0), (0, ONE))],
    [row((0, 2), (0, ONE))], [row((2, 0), (0, ONE))], [row((-1, 0), (0, ONE))], [row((0, -1), (0, ONE))],
    [row((0, 10 ** 5000), (0, ONE))], [row((0,), (0, ONE))], [row((0, 0, 0), (0, ONE))], [row((), (0, ONE))],
    [row((0, 1))], [row((0, 0), (0, ONE)), row((0, 1))],
    [row((0, 0), (1, ONE), (0, ONE))], [row((0, 0), (0, ONE), (0, ONE))], [row((0, 0), (0, ONE), (1, ONE), (1, ONE))],
    [row((0, 0), (2, ONE))], [row((0, 0), (-1, ONE))], [row((0, 0), (0, ONE), (2, ONE))],
    [row((0, 0), (0, (0, 1)))], [row((0, 0), (0, ONE), (1, (0, 1)))],
    [row((0, 0), (0, (2, 4)))], [row((0, 0), (0, ONE), (1, (1, 0)))], [row((0, 0), (0, (1, -1)))], [row((0, 0), (0, (0, 2)))],
]


def wrong_worlds():
    for rows in WRONG_TABLES:
        yield with_rows(rows)
    for x in ((5, 1), (-1, 1), (1, 2), (0, 1)):
        yield with_rows([row((0, 0), (0, x))], 5)
    good = WORLD[3][0]
    for tables in ((), (good, good), (good, ())):
        yield changed(WORLD, tables=tables)
    yield changed(WORLD, kinds=(2, 2))
    yield changed(WORLD, kinds=(3,))
    yield changed(WORLD, dimension=1)
    for dimension in (0, -1, 41, 10 ** 5000):
        yield (0, (2,), dimension, ((),))
    for p in support.WRONG_FIELDS:
        yield (p, (2,), 2, ((),))
    for kinds in support.WRONG_KINDS:
        yield (0, kinds, 2, ((),) * len(kinds))


def just(many):
    """A world whose operation, with three entrances, has a table of so many rows."""
    indexes = list(itertools.product(range(17), repeat=3))[:many]
    return with_rows([row(some, (0, ONE)) for some in indexes], 0, (3,), 17)


class WhatWorldsAre(unittest.TestCase):
    def test_right(self):
        for world in some_worlds():
            self.assertIs(is_world(world), True)
            self.assertIsNone(check_world(world))
        for dimension in (1, 2, 39, 40):
            last = with_rows([row((dimension - 1, 0), (dimension - 1, ONE))], 0, (2,), dimension)
            self.assertIs(is_world(last), True)
        for kinds in support.ALL_KINDS:
            for p in support.FIELDS:
                self.assertIs(is_world((p, kinds, 1, ((),) * len(kinds))), True)
        self.assertIs(is_world(WORLD), True)

    def test_wrong(self):
        for world in wrong_worlds():
            self.assertIs(is_world(world), False)
            self.assertRaises(NotWorld, check_world, world)

    def test_wrong_worlds_come_first(self):
        one = read_sum("3 3 2 5 1 aa.....")
        book = Book(3, (3,), [one])
        for world in wrong_worlds():
            self.assertRaises(NotWorld, unit, world, -1)
            self.assertRaises(NotWorld, value, world, "no tree", [[(1, 0)]])
            self.assertRaises(NotWorld, sum_value, world, one, [[(1, 0)]])
            self.assertRaises(NotWorld, table, world, "no tree")
            self.assertRaises(NotWorld, obeys, world, book)


class Values(unittest.TestCase):
    def test_units(self):
        for world in some_worlds():
            for index in range(world[2]):
                due = [(0, 1)] * world[2]
                due[index] = (1, 1)
                self.assertEqual(unit(world, index), due)
            for index in (-1, -world[2], world[2], world[2] + 1, 10 ** 5000):
                self.assertRaises(BadNumber, unit, world, index)

    def test_against_the_definition(self):
        numbers = support.Numbers(34)
        for world in some_worlds():
            for model in support.models_up_to(world[1], 2)[:30] + support.models(world[1], 3)[::7][:6]:
                for _ in range(2):
                    vectors = [random_vector(numbers, world) for _ in range(support.dots(model))]
                    due = as_numbers(world[0], model_value(world, model, list(vectors)))
                    self.assertEqual(value(world, support.text(model), vectors), due)

    def test_single_products(self):
        first, second = unit(WORLD, 0), unit(WORLD, 1)
        self.assertEqual(value(WORLD, ".", [first]), first)
        self.assertEqual(value(WORLD, "a..", [first, first]), [(1, 2), (3, 1)])
        self.assertEqual(value(WORLD, "a..", [first, second]), [(-2, 1), (0, 1)])
        self.assertEqual(value(WORLD, "a..", [second, first]), [(0, 1), (5, 3)])
        self.assertEqual(value(WORLD, "a..", [second, second]), [(0, 1), (0, 1)])
        # The product of 1/2 of the first and 3 of the second one with the second one.
        self.assertEqual(value(WORLD, "aa...", [first, first, second]), [(-1, 1), (0, 1)])
        self.assertEqual(value(WORLD, "a.a..", [first, first, second]), [(-1, 1), (-6, 1)])

    def test_grafted_trees(self):
        numbers = support.Numbers(35)
        for world in some_worlds():
            outer, inner = support.models(world[1], 2)[-1], support.models(world[1], 1)[0]
            for at in range(support.dots(outer)):
                rows = [None] * support.dots(outer)
                rows[at] = inner
                grafted = support.text(support.filled(outer, rows))
                vectors = [random_vector(numbers, world) for _ in range(grafted.count("."))]
                many = support.dots(inner)
                hung = value(world, support.text(inner), vectors[at:at + many])
                told = vectors[:at] + [hung] + vectors[at + many:]
                self.assertEqual(value(world, grafted, vectors), value(world, support.text(outer), told))

    def test_multiples_and_sums_of_vectors(self):
        numbers = support.Numbers(36)
        for world in some_worlds():
            p = world[0]
            tree = support.text(support.models(world[1], 2)[0])
            vectors = [random_vector(numbers, world) for _ in range(tree.count("."))]
            for at in range(len(vectors)):
                more, by = random_vector(numbers, world), support.worth(p, support.not_zero(numbers, p))
                values = []
                for vector in (vectors[at], more):
                    told = vectors[:at] + [vector] + vectors[at + 1:]
                    values.append([support.worth(p, x) for x in value(world, tree, told)])
                both = [support.pair(p, support.worth(p, x) + by * support.worth(p, y)) for x, y in zip(vectors[at], more)]
                due = as_numbers(p, [x + by * y for x, y in zip(*values)])
                self.assertEqual(value(world, tree, vectors[:at] + [both] + vectors[at + 1:]), due)

    def test_sums(self):
        numbers = support.Numbers(37)
        for world in some_worlds():
            p, kinds = world[:2]
            for size, width in ((0, 1), (1, kinds[0]), (2, 2 * kinds[0] - 1), (2, 4), (3, 4)):
                one = random_sum(numbers, p, kinds, size, width)
                vectors = [random_vector(numbers, world) for _ in range(width)]
                self.assertEqual(sum_value(world, one, vectors), value_of_terms(world, one, vectors))
            zero = zero_sum(p, kinds, 3, 2)
            self.assertEqual(sum_value(world, zero, [random_vector(numbers, world)] * 2), [(0, 1)] * world[2])

    def test_trees_that_are_wrong(self):
        for word in support.WRONG_TREES + ["a" * 10 + "." * 11]:
            self.assertRaises(NotTree, value, WORLD, word, [[(1, 0)]])
            self.assertRaises(NotTree, table, WORLD, word)

    def test_vectors_that_are_wrong(self):
        for p, wrong in WRONG_NUMBERS.items():
            world = with_rows([row((0, 0), (0, ONE))], p)
            one = Sum(p, (2,), 1, 2, [("a..", ONE)])
            good = [(1, 1), (0, 1)]
            self.assertEqual(value(world, "a..", [good, good]), good)
            for x in wrong:
                for vectors in ([good, [ONE, x]], [[x, ONE], good], [[x]], [good, good, [x]], [[], [ONE, ONE, x]]):
                    self.assertRaises(NotNumber, value, world, "a..", vectors)
                    self.assertRaises(NotNumber, sum_value, world, one, vectors)
                    self.assertRaises(NotNumber, sum_value, world, zero_sum(p, (2,), 1, 2), vectors)
            short, long = [ONE], [ONE] * 3
            for vectors in ([], [good], [good] * 3, [good, short], [short, good], [good, long], [good, []], [short, long]):
                self.assertRaises(BadNumber, value, world, "a..", vectors)
                self.assertRaises(BadNumber, sum_value, world, one, vectors)
                self.assertRaises(BadNumber, sum_value, world, zero_sum(p, (2,), 1, 2), vectors)

    def test_sums_that_do_not_fit(self):
        for text in ("3 2 1 2 1 a..", "0 3 1 3 1 a...", "0 22 1 2 1 a..", "3 2 1 2"):
            for vectors in ([unit(WORLD, 0)] * 2, [[(1, 0)]], []):
                self.assertRaises(BadNumber, sum_value, WORLD, read_sum(text), vectors)

    def test_arguments_stay(self):
        vectors = [[ONE, (2, 1)], [(3, 1), (0, 1)]]
        made = value(WORLD, "a..", vectors)
        self.assertEqual(vectors, [[ONE, (2, 1)], [(3, 1), (0, 1)]])
        made.clear()
        self.assertNotEqual(value(WORLD, "a..", vectors), [])
        vector = [ONE, (0, 1)]
        value(WORLD, ".", [vector]).clear()
        sum_value(WORLD, Sum(0, (2,), 0, 1, [(".", ONE)]), [vector]).clear()
        self.assertEqual(vector, [ONE, (0, 1)])


class Tables(unittest.TestCase):
    def test_against_values_at_unit_vectors(self):
        for world in some_worlds():
            models = support.models_up_to(world[1], 2) + support.models(world[1], 3)[::11]
            for model in models:
                if world[2] ** support.dots(model) <= 300:
                    due = []
                    for indexes, vectors in unit_rows(world, support.dots(model)):
                        made = as_numbers(world[0], model_value(world, model, vectors))
                        entries = tuple((at, x) for at, x in enumerate(made) if x != (0, 1))
                        if entries:
                            due.append((indexes, entries))
                    self.assertEqual(table(world, support.text(model)), due)

    def test_of_operations(self):
        for world in some_worlds():
            for letter, held, rows in zip("abc", world[1], world[3]):
                self.assertEqual(table(world, letter + "." * held), list(rows))
            units = [((index,), ((index, ONE),)) for index in range(world[2])]
            self.assertEqual(table(world, "."), units)

    def test_numbers_that_cancel(self):
        # The value of a.a.. at three first unit vectors is twice the first one less twice it.
        world = with_rows([row((0, 0), (0, ONE), (1, ONE)), row((0, 1), (0, (-1, 1)), (1, (-1, 1)))])
        self.assertEqual([indexes for indexes, _ in table(world, "a.a..")], [])
        self.assertEqual(len(table(world, "aa...")), 4)

    def full(self, dimension, held=2):
        """All products are the first unit vector."""
        indexes = list(itertools.product(range(dimension), repeat=held))
        return with_rows([row(some, (0, ONE)) for some in indexes], 0, (held,), dimension)

    def test_too_many_rows(self):
        self.assertEqual(len(table(self.full(8), "aaa....")), 4096)
        self.assertEqual(len(table(self.full(8), "aa..a..")), 4096)
        self.assertEqual(len(table(self.full(16), "a.a..")), 4096)
        self.assertEqual(len(table(self.full(16, 3), "a...")), 4096)
        self.assertEqual(len(table(self.full(1), "aaaaaaaaa..........")), 1)
        for world, word in ((self.full(8), "aaaa....."), (self.full(8), "aa..aa..."), (self.full(17), "aa..."),
                            (self.full(9), "aa..a.."), (self.full(17, 3), "a...")):
            self.assertRaises(TooLarge, table, world, word)
        self.assertEqual(len(table(self.full(2), "a" * 9 + "." * 10)), 1024)
        for many in (4096, 4097):
            world = just(many)
            if many == 4096:
                self.assertEqual(table(world, "a..."), list(world[3][0]))
            else:
                self.assertRaises(TooLarge, table, world, "a...")

    def test_too_many_rows_of_a_part(self):
        # A product with the first unit vector at the first entrance is nothing, so the whole table is empty.
        indexes = list(itertools.product(range(17), repeat=2))
        second = tuple(row((1, at), (1, ONE)) for at in range(17))
        world = (0, (2, 2), 17, (tuple(row(some, (0, ONE)) for some in indexes), second))
        self.assertEqual(table(world, "ba..."), [])
        self.assertRaises(TooLarge, table, world, "baa....")
        self.assertRaises(TooLarge, table, world, "bba...aa...")
        self.assertRaises(TooLarge, obeys, world, read_book("0 22 ; 3 4 1 baa...."))

    def test_lists_of_their_own(self):
        table(WORLD, "a..").clear()
        table(WORLD, ".").clear()
        self.assertEqual(len(table(WORLD, "a..")), 3)


class Obeying(unittest.TestCase):
    def test_against_the_definition(self):
        numbers = support.Numbers(38)
        yes = 0
        for p in (0, 2, 5):
            for kinds in ((2,), (3,), (2, 2)):
                for case in range(60):
                    world = random_world(numbers, p, kinds, 2, 2)
                    size, width = ((2, 2 * kinds[0] - 1), (1, kinds[0]), (3, 4))[case % 3]
                    relation = random_sum(numbers, p, kinds, size, width, 2)
                    if not relation:
                        continue
                    due = all(value_of_terms(world, relation, vectors) == [(0, 1)] * 2
                              for _, vectors in unit_rows(world, width))
                    self.assertIs(obeys(world, Book(p, kinds, [relation])), due)
                    yes += due
        self.assertGreater(yes, 20)

    def test_several_relations(self):
        # The product of the second unit vector with itself is the first one; all else is 0.
        world = with_rows([row((1, 1), (0, ONE))])
        good = ["2 3 1 aa...", "2 3 1 a.a..", "3 4 1 aa..a..", EXAMPLE[6:]]
        for some in itertools.product(good, repeat=3):
            self.assertIs(obeys(world, read_book(" ; ".join(["0 2"] + list(some)))), True)
            for at in range(4):
                parts = list(some)
                parts.insert(at, "1 2 1 a..")
                self.assertIs(obeys(world, read_book(" ; ".join(["0 2"] + parts))), False)
        self.assertIs(obeys(world, Book(0, (2,), [])), True)

    def test_lost_sums_have_the_value_zero(self):
        numbers = support.Numbers(39)
        for text, width in BOOKS:
            book = read_book(text)
            world = told_world(book, min(width, 3))
            for size, wide in ((2, 3), (3, 4), (2, 5), (3, 5)):
                for placing in placings(book, size, wide)[:12]:
                    vectors = [random_vector(numbers, world) for _ in range(wide)]
                    self.assertEqual(sum_value(world, placed(book, placing), vectors), [(0, 1)] * world[2])

    def test_what_does_not_fit(self):
        for text in ("3 2", "0 3", "0 22", "3 2 ; 2 3 1 aa..."):
            self.assertRaises(BadNumber, obeys, WORLD, read_book(text))

    def test_too_many_rows(self):
        indexes = list(itertools.product(range(8), repeat=2))
        world = with_rows([row(some, (0, ONE)) for some in indexes], 0, (2,), 8)
        self.assertIs(obeys(world, read_book("0 2 ; 3 4 -1 aa..a.. 1 aaa....")), True)
        self.assertIs(obeys(world, read_book("0 2 ; 3 4 1 aa..a.. 1 aaa....")), False)
        self.assertRaises(TooLarge, obeys, world, read_book("0 2 ; 4 5 -1 aa..aa... 1 aaaa....."))
        # A relation that does not come to 0 may stand before it.
        try:
            self.assertIs(obeys(world, read_book("0 2 ; 1 2 1 a.. ; 4 5 -1 aa..aa... 1 aaaa.....")), False)
        except TooLarge:
            pass
        self.assertRaises(TooLarge, obeys, world, read_book("0 2 ; 3 4 -1 aa..a.. 1 aaa.... ; 4 5 -1 aa..aa... 1 aaaa....."))


def model_names(book, width):
    found = []
    for wide in range(1, width + 1):
        trees = [tree for size in range(wide) for tree in kept_trees(book, size, wide)]
        for begin in range(width - wide + 1):
            found.extend((begin, begin + wide, tree) for tree in trees)
    return found


class ToldWorlds(unittest.TestCase):
    def cases(self):
        for text, most in BOOKS:
            for width in range(1, most + 1):
                yield read_book(text), width

    def test_names(self):
        for book, width in self.cases():
            found = names(book, width)
            self.assertEqual(found, model_names(book, width))
            self.assertEqual(found[:width], [(at, at + 1, ".") for at in range(width)])
            self.assertEqual(told_world(book, width)[:3], (book.p, book.kinds, len(found)))

    def test_products(self):
        for book, width in self.cases():
            if len(book.kinds) > 2 or width > 4:
                continue
            found, tables = names(book, width), told_world(book, width)[3]
            for letter, held, rows in zip("abc", book.kinds, tables):
                due = {}
                for chosen in itertools.product(range(len(found)), repeat=held):
                    some = [found[index] for index in chosen]
                    if all(one[1] == other[0] for one, other in zip(some, some[1:])):
                        tree = letter + "".join(part for _, _, part in some)
                        many = tree.count(".")
                        whole = plain(book, Sum(book.p, book.kinds, len(tree) - many, many, [(tree, ONE)]))
                        entries = [(found.index((some[0][0], some[-1][1], kept)), x) for kept, x in whole.terms()]
                        if entries:
                            due[chosen] = tuple(sorted(entries))
                self.assertEqual(rows, tuple(sorted(due.items())))

    def test_obeys_the_book(self):
        for book, width in self.cases():
            world = told_world(book, width)
            self.assertIs(is_world(world), True)
            self.assertIs(obeys(world, book), True)

    def test_obeys_no_other_book(self):
        for width in (3, 4, 5):
            world = told_world(read_book(EXAMPLE), width)
            self.assertIs(obeys(world, read_book("0 2 ; 2 3 1 a.a.. 1 aa...")), False)
            self.assertIs(obeys(world, read_book("0 2 ; 1 2 1 a..")), False)
        # Too narrow to tell.
        self.assertIs(obeys(told_world(read_book("0 2"), 2), read_book(EXAMPLE)), True)
        self.assertIs(obeys(told_world(read_book("0 2"), 3), read_book(EXAMPLE)), False)

    def test_values_tell_plain_sums(self):
        numbers = support.Numbers(40)
        for book, width in self.cases():
            found = names(book, width)
            for size in range(width + 1):
                one = random_sum(numbers, book.p, book.kinds, size, width)
                made = told_value(book, one)
                due = [(0, 1)] * len(found)
                for tree, x in plain(book, one).terms():
                    due[found.index((0, width, tree))] = x
                self.assertEqual(made, due)
                world = told_world(book, width)
                self.assertEqual(made, value_of_terms(world, one, [unit(world, at) for at in range(width)]))

    def test_alike_exactly_if_values_are_equal(self):
        numbers = support.Numbers(41)
        told = {True: 0, False: 0}
        for book, width in self.cases():
            for size in range(1, width):
                one = random_sum(numbers, book.p, book.kinds, size, width, 2)
                other = random_sum(numbers, book.p, book.kinds, size, width, 2)
                for against in (other, plain(book, one)):
                    due = are_alike(book, one, against)
                    self.assertIs(told_value(book, one) == told_value(book, against), due)
                    told[due] += 1
        self.assertGreater(min(told.values()), 20)

    def test_books_in_which_more_is_lost(self):
        for text, width in BOOKS:
            book = read_book(text)
            kinds = book.kinds
            more = Sum(book.p, kinds, 2, 2 * kinds[0] - 1, [("aa" + "." * (2 * kinds[0] - 1), ONE)])
            larger = Book(book.p, kinds, book.relations() + [more])
            for wide in range(1, width + 1):
                self.assertIs(obeys(told_world(larger, wide), book), True)

    def test_examples(self):
        book = read_book(EXAMPLE)
        self.assertEqual(told_world(book, 2), (0, (2,), 3, ((((0, 1), ((2, (1, 1)),)),),)))
        self.assertEqual(names(book, 2), [(0, 1, "."), (1, 2, "."), (0, 2, "a..")])
        self.assertEqual(told_world(Book(0, (2,), []), 3)[2], 7)
        self.assertEqual([name[:2] for name in names(Book(0, (2,), []), 3)],
                         [(0, 1), (1, 2), (2, 3), (0, 2), (1, 3), (0, 3), (0, 3)])
        self.assertEqual(told_world(book, 1), (0, (2,), 1, ((),)))

    def test_sizes_before_the_order_of_trees(self):
        # Trees of the width 3 have one letter, or two of them.
        self.assertEqual(names(Book(0, (2, 3), []), 3)[5:], [
            (0, 3, "b..."), (0, 3, "a.a.."), (0, 3, "aa...")])

    def test_widths(self):
        for text, _ in BOOKS:
            book = read_book(text)
            for width in (0, -1, 6, 7, 10 ** 5000):
                self.assertRaises(BadNumber, names, book, width)
                self.assertRaises(BadNumber, told_world, book, width)
            for width in (6, 7, 14):
                self.assertRaises(BadNumber, told_value, book, zero_sum(book.p, book.kinds, 1, width))

    def test_too_large(self):
        # 39 dimensions, and 66.
        self.assertEqual(len(names(read_book("0 2"), 5)), 39)
        self.assertEqual(len(names(read_book("0 22 ; 2 3 1 aa... ; 2 3 1 ab... ; 2 3 1 ba... ; 2 3 1 bb..."), 4)), 26)
        for text, width in (("0 22", 4), ("0 222", 4), ("0 222", 5), ("0 222 ; 2 3 1 aa...", 5)):
            book = read_book(text)
            self.assertRaises(TooLarge, names, book, width)
            self.assertRaises(TooLarge, told_world, book, width)
            self.assertRaises(TooLarge, told_value, book, zero_sum(book.p, book.kinds, width - 1, width))
        # Just 40 dimensions, and just 41.
        forty = read_book("0 23 ; 2 3 1 a.a.. ; 2 4 1 ab....")
        self.assertEqual(len(names(forty, 5)), 40)
        self.assertEqual(told_world(forty, 5)[2], 40)
        self.assertEqual(len(told_value(forty, zero_sum(0, (2, 3), 1, 5))), 40)
        more = read_book("0 23 ; 2 3 1 a.a.. ; 3 4 1 aaa.... ; 2 5 1 b..b... ; 2 5 1 b.b....")
        self.assertRaises(TooLarge, names, more, 5)
        self.assertRaises(TooLarge, told_world, more, 5)
        self.assertRaises(TooLarge, told_value, more, zero_sum(0, (2, 3), 1, 5))
        # Few dimensions, but more than 400 placings of the width 5.
        book = read_book("0 22 ; 1 2 1 a.. ; 2 3 1 bb...")
        self.assertEqual(len(names(book, 4)), 10)
        self.assertRaises(TooLarge, names, book, 5)
        self.assertRaises(TooLarge, told_world, book, 5)
        self.assertRaises(TooLarge, told_value, book, zero_sum(0, (2, 2), 0, 5))

    def test_told_value_of_what_does_not_fit(self):
        book = read_book(EXAMPLE)
        for text in ("3 2 2 3 1 aa...", "0 22 2 3 1 aa...", "0 3 1 3 1 a...", "0 22 0 6", "3 2 0 14"):
            self.assertRaises(BadNumber, told_value, book, read_sum(text))
        # Ahead of what is too large.
        large = read_book("0 222")
        for text in ("3 222 4 5", "0 22 4 5", "3 222 3 4"):
            self.assertRaises(BadNumber, told_value, large, read_sum(text))

    def test_arguments_stay(self):
        book, one = read_book(EXAMPLE), read_sum("0 2 2 3 1 aa...")
        names(book, 3).clear()
        told_value(book, one).clear()
        self.assertEqual(text_of_book(book), EXAMPLE)
        self.assertEqual(text_of_sum(one), "0 2 2 3 1 aa...")
        self.assertEqual(len(names(book, 3)), 6)
