import unittest

from graftworth.books import Book, read_book, text_of_book
from graftworth.alike import dimension, is_lost, kept_trees
from graftworth.duals import dimensions, dual, is_linked, is_square, linked_number, pairing, undo_one_another
from graftworth.errors import BadNumber, NotTree, TooLarge
from graftworth.overlaps import is_complete, tidied
from graftworth.sums import Sum, read_sum, zero_sum
import support

EXAMPLE = "0 2 ; 2 3 -1 a.a.. 1 aa..."
OPPOSITE = "0 2 ; 2 3 1 a.a.. 1 aa..."
TWO = "0 22 ; 2 3 -1 a.a.. 1 aa... ; 2 3 -1 b.b.. 1 bb... ; 2 3 -2 a.b.. 1 ba..."
COMPLETE = [
    "0 2", "3 22", EXAMPLE, "2 2 ; 2 3 1 a.a.. 1 aa...", "0 2 ; 2 3 1 aa...", "5 2 ; 2 3 3 a.a..",
    "0 2 ; 2 3 1 a.a.. 1 aa... ; 2 3 1 aa...", "2 22 ; 2 3 1 aa... ; 2 3 1 b.b..",
    "0 22 ; 2 3 1 ab... ; 2 3 1 ba... ; 2 3 1 a.b.. ; 2 3 1 b.a..", "0 22 ; 2 3 -1 a.b.. 1 ba...",
]
SQUARE = COMPLETE + [
    OPPOSITE, TWO, "7 2 ; 2 3 1 a.a.. 3 aa...", "0 2 ; 2 3 1/2 a.a.. 3 aa... ; 2 3 1 a.a.. 6 aa...",
    "0 22 ; 2 3 1 a.a.. 2 ab... ; 2 3 5/3 b.a.. -1 bb... ; 2 3 1 a.a.. 5 b.a.. 2 ab... -3 bb...",
    "5 22 ; 2 3 1 a.a.. 2 a.b.. 3 b.a.. 4 b.b.. 1 aa... 2 ab... 3 ba... 4 bb...",
    "2 222 ; 2 3 1 a.a.. ; 2 3 1 b.b.. 1 a.b.. ; 2 3 1 ac... ; 2 3 1 c.a.. 1 cc... ; 2 3 1 cb... ; 2 3 1 bb... 1 ca..."
    " ; 2 3 1 b.c.. ; 2 3 1 a.c.. 1 ab... ; 2 3 1 aa... 1 a.a.. 1 b.b..",
]
NOT_SQUARE = [
    "0 3", "0 23", "0 223", "3 32 ; 2 3 1 b.b.. 1 bb...", "0 2 ; 1 2 1 a..", "0 2 ; 2 3 1 aa... ; 3 4 1 aaa....",
    "0 22 ; 3 4 1 aaa....", "0 3 ; 2 5 1 aa.....",
]
DOUBLES = {kinds: support.words_with(kinds, 2, 3) for kinds in ((2,), (2, 2), (2, 2, 2))}


def all_trees_book(p, kinds):
    return Book(p, kinds, [Sum(p, kinds, 2, 3, [(word, (1, 1))]) for word in DOUBLES[kinds]])


def books():
    return [support.book_of(text) for text in SQUARE] + [all_trees_book(3, (2,)), all_trees_book(0, (2, 2))]


def paired(p, one, other):
    """The pairing of two dicts, told by the model trees."""
    total = 0
    for word, w in one.items():
        model = support.model_of((2, 2, 2), word)
        sign = 1 if model[1][0] is not None else -1
        total += sign * w * other.get(word, 0)
    return total % p if p else total


def model_heads(book):
    """The heads of lost sums with two letters."""
    words = DOUBLES[book.kinds][::-1]
    rows = [[support.as_dict(one).get(word, 0) for word in words] for one in book.relations()]
    return [words[next(at for at, w in enumerate(row) if w)] for row in support.reduced(book.p, rows)]


def doubles_in(model):
    """The trees with two letters that stand in a model tree."""
    found = []
    for part in support.parts(model):
        for at, below in enumerate(part[1]):
            if below is not None:
                inner = (below[0], (None, None))
                found.append(support.text((part[0], tuple(inner if k == at else None for k in range(2)))))
    return found


class Squares(unittest.TestCase):
    def test_is_square(self):
        for book in books():
            self.assertIs(is_square(book), True)
        for text in NOT_SQUARE:
            self.assertIs(is_square(read_book(text)), False)

    def test_others_are_refused_first(self):
        for text in NOT_SQUARE:
            book = read_book(text)
            self.assertRaises(BadNumber, dual, book)
            self.assertRaises(BadNumber, is_linked, book, "a..")
            self.assertRaises(BadNumber, is_linked, book, "no tree")
            self.assertRaises(BadNumber, linked_number, book, 2)
        self.assertEqual(dimensions(read_book("0 3"), 3), [1, 0, 1])


class Pairings(unittest.TestCase):
    def random(self, numbers, p, kinds):
        return Sum(p, kinds, 2, 3, support.random_terms(numbers, p, kinds, 2, 3, 6))

    def test_against_the_definition(self):
        numbers = support.Numbers(11)
        for p in support.FIELDS:
            for kinds in DOUBLES:
                for _ in range(8):
                    one, other = self.random(numbers, p, kinds), self.random(numbers, p, kinds)
                    due = support.pair(p, paired(p, support.as_dict(one), support.as_dict(other)))
                    self.assertEqual(pairing(one, other), due)
                    self.assertEqual(pairing(other, one), due)
                    mirror = pairing(one.mirrored(), other.mirrored())
                    self.assertEqual(support.worth(p, mirror), support.worth(p, support.pair(p, -support.worth(p, due))))

    def test_single_trees(self):
        for kinds, words in DOUBLES.items():
            for word in words:
                for against in words:
                    one, other = [Sum(5, kinds, 2, 3, [(tree, (2, 1))]) for tree in (word, against)]
                    due = (0, 1) if word != against else (4, 1) if word[1] != "." else (1, 1)
                    self.assertEqual(pairing(one, other), due)

    def test_zero(self):
        one = read_sum("0 2 2 3 1 aa...")
        for width in (1, 2, 3, 4, 14):
            self.assertEqual(pairing(one, zero_sum(0, (2,), 2, width)), (0, 1))
            self.assertEqual(pairing(zero_sum(0, (2,), 2, width), one), (0, 1))

    def test_what_does_not_fit(self):
        one = read_sum("0 2 2 3 1 aa...")
        for text in ("3 2 2 3 1 aa...", "0 22 2 3 1 aa...", "0 2 3 4 1 aaa....", "0 2 1 2 1 a..", "0 2 1 3", "0 3 2 5 1 aa....."):
            self.assertRaises(BadNumber, pairing, one, read_sum(text))
            self.assertRaises(BadNumber, pairing, read_sum(text), one)
        for text in ("0 3 2 5 1 aa.....", "0 23 2 3 1 aa...", "0 32 2 3 1 bb...", "0 2 3 4 1 aaa....", "0 2 1 2 1 a..", "0 2 0 1 1 ."):
            self.assertRaises(BadNumber, pairing, read_sum(text), read_sum(text))


class Duals(unittest.TestCase):
    def test_the_only_tidy_book(self):
        for book in books():
            found = dual(book)
            words = DOUBLES[book.kinds]
            self.assertEqual((found.p, found.kinds), (book.p, book.kinds))
            self.assertEqual(len(found), len(words) - len(model_heads(book)))
            heads = [words.index(one.head()[0]) for one in found.relations()]
            self.assertEqual(heads, sorted(set(heads)))
            for index, one in enumerate(found.relations()):
                self.assertEqual((one.size, one.width, one.head()[1]), (2, 3, (1, 1)))
                for against, at in enumerate(heads):
                    self.assertEqual(one.at(words[at]), (1, 1) if index == against else (0, 1))
                for relation in book.relations():
                    self.assertEqual(pairing(one, relation), (0, 1))

    def test_dual_of_the_dual(self):
        for book in books():
            self.assertEqual(dual(dual(book)), tidied(book))

    def test_more_relations(self):
        every = books()
        inside = 0
        for book in every:
            for other in every:
                if (book.p, book.kinds) == (other.p, other.kinds):
                    if all(is_lost(other, one) for one in book.relations()):
                        inside += 1
                        self.assertTrue(all(is_lost(dual(book), one) for one in dual(other).relations()))
        self.assertGreater(inside, len(every))

    def test_mirrored(self):
        for book in books():
            self.assertEqual(dual(book.mirrored()), tidied(dual(book).mirrored()))

    def test_many_relations(self):
        kinds = (2, 2, 2)
        relations = all_trees_ones(kinds)
        for many in (8, 9, 10):
            self.assertEqual(len(dual(Book(0, kinds, relations[:many]))), 18 - many)
        self.assertRaises(TooLarge, dual, Book(0, kinds, relations[:7]))
        self.assertRaises(TooLarge, dual, Book(0, kinds, []))
        # Ten relations, of which only seven count.
        self.assertRaises(TooLarge, dual, Book(0, kinds, relations[:7] + relations[:3]))
        self.assertEqual(len(dual(Book(0, (2, 2), []))), 8)

    def test_examples(self):
        book = read_book(EXAMPLE)
        self.assertEqual(dual(book), book)
        relation = book.relations()[0]
        self.assertEqual(pairing(relation, relation), (0, 1))
        self.assertEqual(text_of_book(dual(read_book(OPPOSITE))), OPPOSITE)
        self.assertFalse(is_complete(read_book(OPPOSITE), 3))
        self.assertTrue(is_complete(read_book("2 2 ; 2 3 1 a.a.. 1 aa..."), 6))
        self.assertEqual(text_of_book(dual(read_book("0 2"))), "0 2 ; 2 3 1 a.a.. ; 2 3 1 aa...")
        self.assertEqual(text_of_book(dual(read_book("0 2 ; 2 3 1 a.a.. ; 2 3 1 aa..."))), "0 2")
        self.assertEqual(text_of_book(dual(read_book("0 2 ; 2 3 2 a.a.. 3 aa..."))), "0 2 ; 2 3 3/2 a.a.. 1 aa...")

    def test_arguments_stay(self):
        for book in books():
            before = text_of_book(book)
            dual(book)
            linked_number(book, 3)
            self.assertEqual(text_of_book(book), before)


def all_trees_ones(kinds):
    return [Sum(0, kinds, 2, 3, [(word, (1, 1))]) for word in DOUBLES[kinds]]


class Linked(unittest.TestCase):
    def test_against_the_definition(self):
        for book in books():
            heads = model_heads(book)
            most = {1: 5, 2: 4, 3: 3}[len(book.kinds)]
            for size in range(most + 1):
                many = 0
                for model in support.models(book.kinds, size):
                    due = all(word in heads for word in doubles_in(model))
                    self.assertIs(is_linked(book, support.text(model)), due)
                    many += due
                self.assertEqual(linked_number(book, size), many)

    def test_great_sizes(self):
        linked = "a" * 9 + "." * 10
        for size in range(10):
            self.assertEqual(linked_number(read_book(EXAMPLE), size), 1)
            self.assertEqual(linked_number(read_book("0 2 ; 2 3 1 a.a.."), size), 1)
        self.assertIs(is_linked(read_book(EXAMPLE), linked), True)
        self.assertIs(is_linked(read_book(EXAMPLE), "a" * 8 + "." * 8 + "a.."), False)
        every = [1, 1, 2, 5, 14, 42, 132, 429, 1430, 4862]
        self.assertEqual([linked_number(all_trees_book(7, (2,)), size) for size in range(10)], every)
        doubled = [many * 2 ** size for size, many in enumerate(every)]
        self.assertEqual([linked_number(all_trees_book(2, (2, 2)), size) for size in range(10)], doubled)
        self.assertEqual([linked_number(Book(0, (2, 2, 2), []), size) for size in range(10)], [1, 3] + [0] * 8)

    def test_parts(self):
        for book in books():
            for model in support.models(book.kinds, 3):
                if is_linked(book, support.text(model)):
                    for part in support.parts(model):
                        self.assertTrue(is_linked(book, support.text(part)))
            for word in (".",) + tuple(letter + ".." for letter in "abc"[:len(book.kinds)]):
                self.assertIs(is_linked(book, word), True)

    def test_what_is_wrong(self):
        book = read_book(EXAMPLE)
        for size in (-1, -2, 10, 11, 10 ** 5000):
            self.assertRaises(BadNumber, linked_number, book, size)
        for word in support.WRONG_TREES + ["a" * 10 + "." * 11]:
            self.assertRaises(NotTree, is_linked, book, word)


class Dimensions(unittest.TestCase):
    def test_numbers_of_kept_trees(self):
        texts = SQUARE + ["0 3", "0 32 ; 2 4 1 ba....", "0 2 ; 1 2 1 a..", "5 23 ; 1 2 1 a.. ; 2 5 1 b..b... 1 bb.....", "2 3 ; 2 5 1 aa....."]
        for text in texts:
            book = support.book_of(text)
            due = [sum(len(kept_trees(book, size, width)) for size in range(6)) for width in range(1, 4)]
            for most in range(1, 4):
                self.assertEqual(dimensions(book, most), due[:most])

    def test_without_relations(self):
        self.assertEqual(dimensions(Book(0, (2,), []), 5), [1, 1, 2, 5, 14])
        self.assertEqual(dimensions(Book(0, (3,), []), 5), [1, 0, 1, 0, 3])
        self.assertEqual(dimensions(Book(0, (2, 3), []), 4), [1, 1, 3, 10])
        for p, kinds in ((0, (2,)), (2, (2, 2))):
            many = len(kinds)
            book = Book(p, kinds, [])
            self.assertEqual(dimensions(dual(book), 4), [1, many, 0, 0])
            self.assertTrue(is_complete(book, 3))

    def test_complete_square_books(self):
        for book in [support.book_of(text) for text in COMPLETE]:
            self.assertTrue(is_complete(tidied(book), 3))
            most = 5 if len(book.kinds) == 1 else 4
            f, g = dimensions(book, most), dimensions(dual(book), most)
            self.assertEqual(g, [linked_number(book, size) for size in range(most)])
            self.assertEqual(f, [linked_number(dual(book), size) for size in range(most)])
            self.assertIs(undo_one_another(f, g), True)
            self.assertIs(undo_one_another(g, f), True)

    def test_example(self):
        self.assertEqual(dimensions(read_book(EXAMPLE), 4), [1, 1, 1, 1])
        self.assertIs(undo_one_another([1] * 4, [1] * 4), True)
        # The book with the opposite sign is not complete: the tree a.a.a.. is lost in it.
        self.assertEqual(dimensions(read_book(OPPOSITE), 4), [1, 1, 1, 0])
        self.assertEqual(dimensions(read_book("2 2 ; 2 3 1 a.a.. 1 aa..."), 4), [1, 1, 1, 1])

    def test_what_is_wrong(self):
        for book in (read_book(EXAMPLE), read_book("0 222"), read_book("0 3")):
            for most in (0, -1, 6, 7, 10 ** 5000):
                self.assertRaises(BadNumber, dimensions, book, most)
        # 224 and 1134 trees of the width 5.
        self.assertEqual(dimensions(read_book("0 22"), 5), [1, 2, 8, 40, 224])
        self.assertEqual(dimensions(read_book("0 222"), 4), [1, 3, 18, 135])
        self.assertRaises(TooLarge, dimensions, read_book("0 222"), 5)
        # More than 400 placings of the size 4 and the width 5, and fewer of all lesser ones.
        book = read_book("0 22 ; 1 2 1 a..")
        self.assertRaises(TooLarge, dimension, book, 4, 5)
        self.assertEqual(dimensions(book, 4), [1, 1, 2, 5])
        self.assertRaises(TooLarge, dimensions, book, 5)


class UndoOneAnother(unittest.TestCase):
    def made(self, one, other):
        """The second series with -f(-x) in the place of x, reckoned with polynomials that are not cut off."""
        turned = [0] + [-term if at % 2 else term for at, term in enumerate(one)]
        total = [0] * (len(one) + 1)
        power = [1]
        for term in other:
            power = [sum(power[k] * turned[n - k] for k in range(len(power)) if 0 <= n - k < len(turned))
                     for n in range(len(power) + len(turned) - 1)]
            for n in range(len(total)):
                total[n] += term * (power[n] if n < len(power) else 0)
        return total[1:]

    def test_against_polynomials(self):
        numbers = support.Numbers(5)
        yes = 0
        for many in (1, 2, 3, 5, 12):
            for _ in range(30):
                one = [numbers.between(-1, 1) or 1] + [numbers.between(-1, 1) for _ in range(many - 1)]
                other = [one[0]] + [numbers.between(-1, 1) for _ in range(many - 1)]
                due = self.made(one, other) == [1] + [0] * (many - 1)
                self.assertIs(undo_one_another(one, other), due)
                yes += due
        self.assertGreater(yes, 20)

    def test_which_signs_are_turned(self):
        # With its signs turned, 1 1 1 1 is 1 -1 1 -1, and 1 2 5 14 is 1 -2 5 -14.
        self.assertIs(undo_one_another([1, 1, 1, 1], [1, 1, 1, 1]), True)
        self.assertIs(undo_one_another([1, 1, 2, 5], [1, 1, 0, 0]), True)
        self.assertIs(undo_one_another([1, 1, 0, 0], [1, 1, 2, 5]), True)
        self.assertIs(undo_one_another([1, -1, 0, 0], [1, 1, 2, 5]), False)
        self.assertIs(undo_one_another([1, 1, 1, 1], [1, -1, 1, -1]), False)
        self.assertIs(undo_one_another([1], [1]), True)
        self.assertIs(undo_one_another([-1], [-1]), True)
        self.assertIs(undo_one_another([1], [-1]), False)
        self.assertIs(undo_one_another([2], [2]), False)
        self.assertIs(undo_one_another([0, 1], [0, 1]), False)

    def test_what_is_wrong(self):
        for one, other in (([], []), ([1], []), ([], [1]), ([1], [1, 0]), ([1, 0], [1]), ([1] * 13, [1] * 13), ([1] * 12, [1] * 13)):
            self.assertRaises(BadNumber, undo_one_another, one, other)

    def test_arguments_stay(self):
        one, other = [1, 1, 2, 5], [1, 1, 0, 0]
        undo_one_another(one, other)
        self.assertEqual((one, other), ([1, 1, 2, 5], [1, 1, 0, 0]))
