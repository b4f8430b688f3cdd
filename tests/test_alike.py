import sys
import unittest

from graftworth.alike import are_alike, decide, dimension, is_answer, is_lost, is_row, kept_trees, plain
from graftworth.books import Book, combined, placed, placings, read_book
from graftworth.errors import BadNumber, NotNumber, NotPlacing, TooLarge
from graftworth.sums import Sum, zero_sum
from graftworth.trees import listed
import support

EXAMPLE = "0 2 ; 2 3 -1 a.a.. 1 aa..."
TEXTS = [
    "0 2", EXAMPLE, "3 2 ; 2 3 1 a.a.. 1 aa...", "0 2 ; 2 3 1 a.a.. 1 aa...", "0 2 ; 2 3 1/2 a.a.. 3 aa... ; 3 4 1 aa..a..",
    "7 3 ; 2 5 1 a..a... 3 a.a.... 5 aa.....", "0 3 ; 2 5 1 a..a... ; 2 5 -1 a..a... 1 aa.....",
    "2 22 ; 2 3 1 a.b.. 1 ba...", "0 22 ; 2 3 -1 a.a.. 1 aa... ; 2 3 -1 b.b.. 1 bb... ; 2 3 -2 a.b.. 1 ba...",
    "5 22 ; 1 2 1 a.. 2 b..", "0 32 ; 1 3 1 a... ; 2 3 1 bb...", "5 32 ; 2 4 1 a..b.. 2 ab.... 3 ba.... ; 2 3 1 b.b..",
    "0 232 ; 1 2 1 a.. -3 c.. ; 2 4 1 ab.... -1 ba....", "0 2 ; 1 2 3 a..",
]
FORMS = [(0, 1), (1, 2), (1, 3), (2, 3), (2, 4), (2, 5), (3, 4), (3, 5), (3, 7), (2, 6), (0, 2), (4, 5)]


def books():
    return [read_book(text) for text in TEXTS]


def forms(book):
    """Forms of which there are not too many trees."""
    most = 120 if len(book.kinds) < 3 else 60
    for size, width in FORMS:
        if size < 4 or len(book.kinds) == 1:
            if len(support.words_with(book.kinds, size, width)) <= most:
                yield size, width


def random_sum(numbers, book, size, width, most=4):
    return Sum(book.p, book.kinds, size, width, support.random_terms(numbers, book.p, book.kinds, size, width, most))


def lost_rows(book, size, width):
    """The numbers of all trees, descending, in all that is placed; found with the plain models alone."""
    words = support.words_with(book.kinds, size, width)[::-1]
    ones = [support.as_dict(one) for one in book.relations()]
    shapes = [(one.size, one.width) for one in book.relations()]
    rows = []
    for placing in support.all_placings(book.kinds, shapes, size, width):
        told = support.placed(book.kinds, ones[placing[0]], placing)
        rows.append([told.get(word, 0) for word in words])
    return words, rows


def as_numbers(one, words):
    told = support.as_dict(one)
    return [told.get(word, 0) for word in words]


def one_tree(book, word, size, width, x=(1, 1)):
    return Sum(book.p, book.kinds, size, width, [(word, x)])


class KeptTrees(unittest.TestCase):
    def test_heads_of_lost_sums(self):
        for book in books():
            for size, width in forms(book):
                words, rows = lost_rows(book, size, width)
                form = support.reduced(book.p, rows)
                lost = [words[next(at for at, w in enumerate(row) if w)] for row in form]
                due = [word for word in words[::-1] if word not in lost]
                self.assertEqual(kept_trees(book, size, width), due)
                self.assertEqual(dimension(book, size, width), len(due))
                self.assertEqual(len(due) + len(form), len(words))

    def test_no_relations(self):
        for kinds in support.SOME_KINDS:
            book = Book(0, kinds, [])
            for size, width in ((0, 1), (1, 2), (2, 3), (2, 4), (5, 3)):
                self.assertEqual(kept_trees(book, size, width), listed(kinds, size, width))

    def test_example(self):
        book = read_book(EXAMPLE)
        self.assertEqual(kept_trees(book, 2, 3), ["a.a.."])
        for size in range(7):
            self.assertEqual(dimension(book, size, size + 1), 1)
            self.assertEqual(kept_trees(book, size, size + 1), ["a." * size + "."])
        numbers = support.Numbers(1)
        for _ in range(20):
            one, other = random_sum(numbers, book, 3, 4), random_sum(numbers, book, 3, 4)
            total = sum(support.as_dict(one).values())
            self.assertEqual(plain(book, one), one_tree(book, "a.a.a..", 3, 4, support.pair(0, total)))
            self.assertTrue(is_row(book, 3, 4, [(1, 1)] * 5))
            self.assertIs(are_alike(book, one, other), total == sum(support.as_dict(other).values()))
            self.assertIs(is_answer(book, one, other, ("apart", [(1, 1)] * 5)), not are_alike(book, one, other))

    def test_sizes_and_widths(self):
        book = read_book(EXAMPLE)
        for function in (kept_trees, dimension):
            for size in (-1, 10, 10 ** 5000):
                self.assertRaises(BadNumber, function, book, size, 3)
            for width in (0, -1, 15, 10 ** 5000):
                self.assertRaises(BadNumber, function, book, 3, width)
            self.assertRaises(BadNumber, function, book, 9, 15)
            self.assertRaises(BadNumber, function, book, 10, 10)

    def test_too_large(self):
        book = read_book(EXAMPLE)
        # 132 trees and 330 placings, then 429 trees.
        self.assertEqual(dimension(book, 6, 7), 1)
        self.assertRaises(TooLarge, kept_trees, book, 7, 8)
        self.assertRaises(TooLarge, dimension, Book(0, (2,), []), 7, 8)
        # 273 trees, without and with too many placings.
        self.assertEqual(dimension(Book(0, (3,), []), 5, 11), 273)
        self.assertRaises(TooLarge, kept_trees, read_book("0 3 ; 1 3 1 a..."), 5, 11)
        self.assertEqual(dimension(read_book("0 3 ; 1 3 1 a..."), 4, 9), 0)
        seven = read_book("0 2" + " ; 1 2 1 a.." * 7)
        eight = read_book("0 2" + " ; 1 2 1 a.." * 8)
        self.assertEqual(kept_trees(seven, 4, 5), [])
        self.assertRaises(TooLarge, kept_trees, eight, 4, 5)


class PlainSums(unittest.TestCase):
    def test_against_plain_elimination(self):
        numbers = support.Numbers(7)
        for book in books():
            for size, width in forms(book):
                words, rows = lost_rows(book, size, width)
                form = support.reduced(book.p, rows)
                for _ in range(3):
                    one = random_sum(numbers, book, size, width, 6)
                    made = plain(book, one)
                    left = as_numbers(one, words)
                    for row in form:
                        left = support.without(book.p, left, next(at for at, w in enumerate(row) if w), row)
                    self.assertEqual(as_numbers(made, words), left)
                    self.assertEqual((made.p, made.kinds, made.size, made.width), (book.p, book.kinds, size, width))
                    self.assertIs(is_lost(book, one), not any(left))

    def test_only_sum_of_kept_trees(self):
        numbers = support.Numbers(14)
        for book in books():
            for size, width in forms(book):
                one, other = random_sum(numbers, book, size, width), random_sum(numbers, book, size, width)
                made = plain(book, one)
                kept = kept_trees(book, size, width)
                self.assertTrue(all(tree in kept for tree, _ in made.terms()))
                self.assertEqual(plain(book, made), made)
                self.assertTrue(are_alike(book, one, made))
                self.assertTrue(is_lost(book, one - made))
                self.assertEqual(plain(book, one + other), made + plain(book, other))
                self.assertEqual(plain(book, one.scaled((2 % (book.p or 3), 1))), made.scaled((2 % (book.p or 3), 1)))
                self.assertIs(are_alike(book, one, other), made == plain(book, other))
                self.assertIs(is_lost(book, one), len(made) == 0)
                self.assertTrue(is_lost(book, zero_sum(book.p, book.kinds, size, width)))

    def test_trees_in_its_place_are_less(self):
        for book in books():
            for size, width in forms(book):
                words = support.words_with(book.kinds, size, width)
                kept = kept_trees(book, size, width)
                for index, word in enumerate(words):
                    made = plain(book, one_tree(book, word, size, width))
                    if word in kept:
                        self.assertEqual(made, one_tree(book, word, size, width))
                    else:
                        self.assertTrue(all(words.index(tree) < index for tree, _ in made.terms()))

    def test_grafting(self):
        numbers = support.Numbers(19)
        for book in books():
            for size, width in ((1, 2), (2, 3), (1, 3)):
                for other_size, other_width in ((0, 1), (1, 2), (2, 3)):
                    if len(support.words_with(book.kinds, size, width)) == 0 or size + other_size > 3:
                        continue
                    one, other = random_sum(numbers, book, size, width), random_sum(numbers, book, other_size, other_width)
                    for at in range(width):
                        made = plain(book, one).grafted(at, plain(book, other))
                        self.assertEqual(plain(book, one.grafted(at, other)), plain(book, made))

    def test_under_and_with_trees(self):
        numbers = support.Numbers(29)
        for book in books():
            letter = "a" + "." * book.kinds[0]
            one = random_sum(numbers, book, 2, 3 if 2 in book.kinds else 5)
            for at in range(book.kinds[0]):
                self.assertEqual(plain(book, one.under(letter, at)), plain(book, plain(book, one).under(letter, at)))
            for at in range(one.width):
                trees = [letter if dot == at else "." for dot in range(one.width)]
                self.assertEqual(plain(book, one.with_all(trees)), plain(book, plain(book, one).with_all(trees)))

    def test_lost_sums(self):
        numbers = support.Numbers(37)
        for book in books():
            for size, width in forms(book):
                found = placings(book, size, width)
                pairs = [(support.some_number(numbers, book.p), found[numbers.below(len(found))]) for _ in range(4) if found]
                lost = combined(book, size, width, pairs)
                self.assertTrue(is_lost(book, lost))
                one = random_sum(numbers, book, size, width)
                self.assertTrue(are_alike(book, one, one + lost))
                self.assertTrue(are_alike(book, one - lost, one))

    def test_mirrored_and_with_more_relations(self):
        numbers = support.Numbers(41)
        for book in books():
            more = Book(book.p, book.kinds, book.relations() + [random_sum(numbers, book, 1, book.kinds[0], 1)])
            for size, width in forms(book):
                for _ in range(2):
                    one, other = random_sum(numbers, book, size, width), random_sum(numbers, book, size, width)
                    told = are_alike(book, one, other)
                    self.assertIs(are_alike(book.mirrored(), one.mirrored(), other.mirrored()), told)
                    if told:
                        self.assertTrue(are_alike(more, one, other))
                    made = plain(book, one)
                    self.assertTrue(are_alike(book.mirrored(), one.mirrored(), made.mirrored()))
                    if len(placings(more, min(size, 2), width)) <= 400 and size <= 3:
                        self.assertTrue(are_alike(more, one, made))


class Deciding(unittest.TestCase):
    def check_paper(self, book, one, other, paper):
        self.assertEqual(len(set(placing for _, placing in paper)), len(paper))
        shapes = [(relation.size, relation.width) for relation in book.relations()]
        every = set(support.all_placings(book.kinds, shapes, one.size, one.width))
        pairs = []
        for x, placing in paper:
            self.assertNotEqual(x, (0, 1))
            self.assertIn(placing, every)
            told = support.placed(book.kinds, support.as_dict(book.relations()[placing[0]]), placing)
            pairs.extend((tree, w * support.worth(book.p, x)) for tree, w in told.items())
        self.assertEqual(support.collected(book.p, pairs), support.as_dict(one - other))

    def check_row(self, book, one, other, row):
        words, rows = lost_rows(book, one.size, one.width)
        numbers = [support.worth(book.p, x) for x in row][::-1]
        self.assertEqual(len(numbers), len(words))
        for told in rows:
            self.assertEqual(support.pair(book.p, sum(x * y for x, y in zip(told, numbers))), (0, 1))
        parted = sum(x * y for x, y in zip(as_numbers(one - other, words), numbers))
        self.assertNotEqual(support.pair(book.p, parted), (0, 1))

    def test_an_answer_for_each_two_sums(self):
        numbers = support.Numbers(43)
        seen = {"alike": 0, "apart": 0}
        for book in books():
            for size, width in forms(book):
                one, other = random_sum(numbers, book, size, width), random_sum(numbers, book, size, width)
                for second in (other, plain(book, one), one):
                    answer = decide(book, one, second)
                    word, told = answer
                    seen[word] += 1
                    self.assertIs(word == "alike", are_alike(book, one, second))
                    (self.check_paper if word == "alike" else self.check_row)(book, one, second, told)
                    self.assertIs(is_answer(book, one, second, answer), True)
                    self.assertIs(is_answer(book, second, one, answer), word == "apart" or one == second or book.p == 2)
        self.assertGreater(min(seen.values()), 40)

    def test_by_hand(self):
        book = read_book(EXAMPLE)
        left, right = one_tree(book, "aa...", 2, 3), one_tree(book, "a.a..", 2, 3)
        paper = [((1, 1), (0, ".", 0, (".", ".", ".")))]
        self.assertEqual(decide(book, left, right), ("alike", paper))
        self.assertEqual(decide(book, left, left), ("alike", []))
        word, row = decide(book, left, zero_sum(0, (2,), 2, 3))
        self.assertEqual(word, "apart")
        self.assertEqual(row[0], row[1])
        self.assertNotEqual(row[0], (0, 1))

    def test_forms_without_trees(self):
        for book in books():
            zero = zero_sum(book.p, book.kinds, 3, 1)
            self.assertEqual(decide(book, zero, zero), ("alike", []))
            self.assertTrue(is_answer(book, zero, zero, ("alike", [])))
            self.assertFalse(is_answer(book, zero, zero, ("apart", [])))
            self.assertTrue(is_row(book, 3, 1, []))
            self.assertFalse(is_row(book, 3, 1, [(1, 1)]))
            self.assertEqual(plain(book, zero), zero)
            self.assertEqual(kept_trees(book, 3, 1), [])


class Rows(unittest.TestCase):
    def test_rows(self):
        numbers = support.Numbers(47)
        for book in books():
            for size, width in forms(book):
                words, rows = lost_rows(book, size, width)
                zeros = [(0, 1)] * len(words)
                self.assertIs(is_row(book, size, width, zeros), True)
                for _ in range(4):
                    row = [support.some_number(numbers, book.p) for _ in words]
                    told = [support.worth(book.p, x) for x in row][::-1]
                    sums = [support.pair(book.p, sum(x * y for x, y in zip(told, lost))) for lost in rows]
                    self.assertIs(is_row(book, size, width, row), all(x == (0, 1) for x in sums))
                for wrong in (zeros + [(0, 1)], zeros[1:], zeros[:-1] + [(2, 2)], [(1, 0)] + zeros[1:]):
                    if wrong != zeros:
                        self.assertIs(is_row(book, size, width, wrong), False)

    def test_one_thing_changed(self):
        book = read_book(EXAMPLE)
        row = [(5, 3)] * 5
        self.assertIs(is_row(book, 3, 4, row), True)
        for at in range(5):
            for x in ((0, 1), (-5, 3), (1, 1), (10, 6)):
                self.assertIs(is_row(book, 3, 4, row[:at] + [x] + row[at + 1:]), False)
        self.assertEqual(row, [(5, 3)] * 5)

    def test_errors(self):
        book = read_book(EXAMPLE)
        for size, width in ((-1, 3), (10, 3), (3, 0), (3, 15)):
            self.assertRaises(BadNumber, is_row, book, size, width, [])
            self.assertRaises(BadNumber, is_row, book, size, width, [(2, 2)])
        self.assertRaises(TooLarge, is_row, book, 7, 8, [])
        self.assertRaises(TooLarge, is_row, read_book("0 2" + " ; 1 2 1 a.." * 8), 4, 5, [(2, 2)])


class Answers(unittest.TestCase):
    def test_papers_with_one_thing_changed(self):
        book = read_book(EXAMPLE)
        left, right = one_tree(book, "aaa....", 3, 4), one_tree(book, "a.a.a..", 3, 4)
        paper = decide(book, left, right)[1]
        self.assertTrue(is_answer(book, left, right, ("alike", paper)))
        self.assertTrue(is_answer(book, left, right, ("alike", paper[::-1])))
        self.assertTrue(is_answer(book, left, right, ("alike", paper + [((0, 1), paper[0][1])])))
        twice = paper + [((2, 3), paper[0][1]), ((-2, 3), paper[0][1])]
        self.assertTrue(is_answer(book, left, right, ("alike", twice)))
        for at, (x, placing) in enumerate(paper):
            for changed in ([], [((x[0] + 1, 1), placing)], [(x, placing)] * 2):
                self.assertFalse(is_answer(book, left, right, ("alike", paper[:at] + changed + paper[at + 1:])))
        self.assertFalse(is_answer(book, right, left, ("alike", paper)))
        self.assertFalse(is_answer(book, left, left, ("alike", paper)))
        self.assertFalse(is_answer(book, left, right, ("alike", [])))

    def test_errors_of_papers(self):
        book = read_book(EXAMPLE)
        one = one_tree(book, "aa...", 2, 3)
        right = ((1, 1), (0, ".", 0, (".", ".", ".")))
        due = [
            (((2, 2), (7, ".", 0, ())), NotNumber), (((1, 1), (7, ".", 0, (".", ".", "."))), NotPlacing),
            (((1, 1), (0, "a" * 8 + "." * 9, 0, (".", ".", "."))), TooLarge),
            (((1, 1), (0, "a..", 0, (".", ".", "."))), BadNumber),
        ]
        for pair, error in due:
            for behind, _ in due:
                self.assertRaises(error, is_answer, book, one, one, ("alike", [right, pair, behind]))

    def test_rows_with_one_thing_changed(self):
        book = read_book(EXAMPLE)
        one, other = one_tree(book, "aa...", 2, 3), one_tree(book, "a.a..", 2, 3, (2, 1))
        self.assertIs(is_answer(book, one, other, ("apart", [(1, 1), (1, 1)])), True)
        self.assertIs(is_answer(book, one, other, ("apart", [(-2, 3), (-2, 3)])), True)
        for row in ([], [(1, 1)], [(1, 1)] * 3, [(1, 1), (2, 1)], [(0, 1), (0, 1)], [(2, 2), (2, 2)], [(1, 1), (1, 0)]):
            self.assertIs(is_answer(book, one, other, ("apart", row)), False)
        self.assertIs(is_answer(book, one, one, ("apart", [(1, 1), (1, 1)])), False)
        self.assertIs(is_answer(book, one, other, ("alike", [])), False)
        self.assertIs(is_answer(book, one, other, ("", [(1, 1), (1, 1)])), False)

    def test_a_paper_and_a_row_are_never_both_there(self):
        numbers = support.Numbers(53)
        for book in books():
            for size, width in ((2, 3), (2, 4)):
                one, other = random_sum(numbers, book, size, width), random_sum(numbers, book, size, width)
                word, told = decide(book, one, other)
                if word == "alike":
                    for _ in range(20):
                        row = [support.some_number(numbers, book.p) for _ in support.words_with(book.kinds, size, width)]
                        self.assertIs(is_answer(book, one, other, ("apart", row)), False)


class WrongSums(unittest.TestCase):
    def calls(self, book, one, other):
        paper = ("alike", [((2, 2), (9, "", 9, ()))])
        return [
            (are_alike, (book, one, other)), (decide, (book, one, other)), (is_answer, (book, one, other, paper)),
            (is_answer, (book, one, other, ("apart", []))),
        ]

    def test_forms_that_differ(self):
        book = read_book(EXAMPLE)
        right = zero_sum(0, (2,), 7, 8)
        for wrong in (zero_sum(2, (2,), 7, 8), zero_sum(0, (2, 2), 7, 8), zero_sum(0, (3,), 7, 8)):
            self.assertRaises(BadNumber, plain, book, wrong)
            self.assertRaises(BadNumber, is_lost, book, wrong)
            for one, other in ((wrong, right), (right, wrong), (wrong, wrong)):
                for function, arguments in self.calls(book, one, other):
                    self.assertRaises(BadNumber, function, *arguments)
        for wrong in (zero_sum(0, (2,), 6, 8), zero_sum(0, (2,), 7, 9), zero_sum(0, (2,), 0, 1)):
            for one, other in ((wrong, right), (right, wrong)):
                for function, arguments in self.calls(book, one, other):
                    self.assertRaises(BadNumber, function, *arguments)

    def test_then_too_large(self):
        books_and_forms = [(read_book(EXAMPLE), 7, 8), (Book(0, (2,), []), 7, 8), (read_book("0 2" + " ; 1 2 1 a.." * 8), 4, 5)]
        for book, size, width in books_and_forms:
            zero = zero_sum(0, (2,), size, width)
            self.assertRaises(TooLarge, plain, book, zero)
            self.assertRaises(TooLarge, is_lost, book, zero)
            for function, arguments in self.calls(book, zero, zero):
                self.assertRaises(TooLarge, function, *arguments)

    def test_arguments_stay(self):
        book = read_book(EXAMPLE)
        one, other = one_tree(book, "aaa....", 3, 4), one_tree(book, "a.a.a..", 3, 4)
        paper = decide(book, one, other)[1]
        copy = list(paper)
        is_answer(book, one, other, ("alike", paper))
        self.assertEqual(paper, copy)
        paper.clear()
        self.assertEqual(decide(book, one, other)[1], copy)
        kept_trees(book, 3, 4).clear()
        self.assertEqual(kept_trees(book, 3, 4), ["a.a.a.."])
        self.assertEqual((one.terms(), other.terms()), ([("aaa....", (1, 1))], [("a.a.a..", (1, 1))]))
        self.assertEqual(book, read_book(EXAMPLE))


class Placed(unittest.TestCase):
    def test_what_is_placed_is_lost(self):
        for book in books():
            for size, width in ((2, 3), (3, 4), (2, 4)):
                for placing in placings(book, size, width):
                    self.assertTrue(is_lost(book, placed(book, placing)))


def calls_made(function, *arguments):
    """How many functions are called, the library's own ones too, until a call returns or raises TooLarge."""
    made = []
    sys.setprofile(lambda frame, event, what: made.append(event) if event in ("call", "c_call") else None)
    try:
        function(*arguments)
    except TooLarge:
        pass
    finally:
        sys.setprofile(None)
    return len(made)


class Refusals(unittest.TestCase):
    """What is refused for the numbers of trees and placings alone takes no list of them."""

    def calls(self, book, size, width):
        zero = zero_sum(book.p, book.kinds, size, width)
        return [
            (kept_trees, (book, size, width)), (dimension, (book, size, width)), (is_row, (book, size, width, [])), (plain, (book, zero)),
            (is_lost, (book, zero)), (are_alike, (book, zero, zero)), (decide, (book, zero, zero)),
            (is_answer, (book, zero, zero, ("alike", []))), (is_answer, (book, zero, zero, ("apart", []))),
        ]

    def test_they_take_less_than_answers(self):
        one = Sum(0, (2, 2), 1, 2, [("a..", (1, 1))])
        # 224 trees and 448 placings; as many trees, and more placings; 429 trees, and 4862.
        for book, size, width in (
            (Book(0, (2, 2), [one]), 4, 5), (Book(0, (2, 2), [one] * 10), 4, 5), (Book(0, (2,), []), 7, 8), (read_book(EXAMPLE), 9, 10),
        ):
            for function, arguments in self.calls(book, size, width):
                self.assertRaises(TooLarge, function, *arguments)
                self.assertLess(calls_made(function, *arguments), 300, function)
        # What is not refused takes all of the trees.
        for function, arguments in self.calls(Book(0, (2, 2), []), 4, 5):
            self.assertGreater(calls_made(function, *arguments), 1000)

    def test_wrong_numbers_come_first(self):
        book = Book(0, (2, 2), [Sum(0, (2, 2), 1, 2, [("a..", (1, 1))])])
        for size, width in ((-1, 5), (10, 5), (4, 0), (4, 15)):
            for function in (kept_trees, dimension):
                self.assertRaises(BadNumber, function, book, size, width)
            self.assertRaises(BadNumber, is_row, book, size, width, [])
        wrong, right = zero_sum(3, (2, 2), 4, 5), zero_sum(0, (2, 2), 4, 5)
        for one, other in ((wrong, right), (right, wrong), (right, zero_sum(0, (2, 2), 4, 6))):
            for function in (are_alike, decide):
                self.assertRaises(BadNumber, function, book, one, other)
            self.assertRaises(BadNumber, is_answer, book, one, other, ("alike", []))
        self.assertRaises(BadNumber, plain, book, wrong)
        self.assertRaises(BadNumber, is_lost, book, wrong)
