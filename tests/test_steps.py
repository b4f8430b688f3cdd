import unittest

from graftworth.alike import are_alike, is_lost, kept_trees, plain
from graftworth.books import Book, combined, placings, read_book
from graftworth.errors import BadNumber, NotPlacing, NotTree, TooLarge
from graftworth.grafting import graft, graft_all
from graftworth.steps import down, first_step, heads, is_low, low_trees, standings, step_down, walked
from graftworth.sums import Sum, zero_sum
from graftworth.trees import listed, rows_of_trees
import support
from support import WRONG_TREES

EXAMPLE = "0 2 ; 2 3 -1 a.a.. 1 aa..."
TEXTS = [
    "0 2", EXAMPLE, "3 2 ; 2 3 2 a.a.. 2 aa...", "0 2 ; 2 3 1/2 a.a.. -2/3 aa...", "0 2 ; 3 4 1 a.a.a.. 2 aa..a.. 3 aaa....",
    "0 2 ; 2 3 1 aa... ; 2 3 2 aa... ; 3 4 -1 aa..a.. 1 aaa....", "7 3 ; 2 5 1 a..a... 3 a.a.... 5 aa.....",
    "0 22 ; 2 3 -1 a.a.. 1 aa... ; 2 3 -1 b.b.. 1 bb... ; 2 3 -2 a.b.. 1 ba...", "5 22 ; 1 2 1 a.. 2 b..",
    "2 22 ; 2 3 1 a.b.. 1 ba...", "0 32 ; 1 3 1 a... ; 2 3 1 bb...", "5 32 ; 2 4 1 a..b.. 2 ab.... 3 ba.... ; 2 3 1 b.b..",
    "0 232 ; 1 2 1 a.. -3 c.. ; 2 4 1 ab.... -1 ba....", "0 2 ; 1 2 3 a..",
]
COMPLETE = [
    "0 2", EXAMPLE, "7 2 ; 2 3 6 a.a.. 1 aa...", "2 2 ; 2 3 1 a.a.. 1 aa...", "5 22 ; 1 2 1 a.. 2 b..", "0 2 ; 2 3 1 aa...",
    "0 2 ; 2 3 1 a.a.. ; 2 3 1 aa...", "0 22 ; 2 3 -1 a.a.. 1 aa... ; 2 3 -1 b.b.. 1 bb...",
    "0 2 ; 2 3 1 a.a.. 1 aa... ; 3 4 1 a.a.a..",
]
FORMS = [(0, 1), (1, 2), (1, 3), (2, 3), (2, 4), (2, 5), (3, 4), (3, 5), (3, 7)]


def books():
    return [read_book(text) for text in TEXTS]


def words_of(book):
    for size, width in FORMS:
        for word in support.words_with(book.kinds, size, width)[:: 5 if len(book.kinds) == 3 else 1]:
            yield word


def random_sums(numbers, book, most=5):
    for size, width in FORMS + ([(4, 5)] if book.kinds == (2,) else []):
        if support.words_with(book.kinds, size, width):
            for _ in range(2):
                yield Sum(book.p, book.kinds, size, width,
                          support.random_terms(numbers, book.p, book.kinds, size, width, most))


class Standings(unittest.TestCase):
    def test_heads(self):
        for book in books():
            self.assertEqual(heads(book), support.heads(book))
        self.assertEqual(heads(read_book(EXAMPLE)), ["aa..."])
        self.assertEqual(heads(read_book("0 2")), [])
        self.assertEqual(heads(read_book(TEXTS[5])), ["aa...", "aa...", "aaa...."])

    def test_against_models(self):
        for book in books():
            tops = support.heads(book)
            for word in words_of(book):
                due = support.standings(book.kinds, tops, word)
                self.assertEqual(standings(book, word), due)
                self.assertIs(is_low(book, word), due == [])

    def test_in_order(self):
        book = read_book(TEXTS[5])
        due = [
            (0, ".", 0, ("aa...", ".", ".")), (0, "a..", 0, ("a..", ".", ".")), (0, "aa...", 0, (".", ".", ".")),
            (1, ".", 0, ("aa...", ".", ".")), (1, "a..", 0, ("a..", ".", ".")), (1, "aa...", 0, (".", ".", ".")),
            (2, ".", 0, ("a..", ".", ".", ".")), (2, "a..", 0, (".", ".", ".", ".")),
        ]
        self.assertEqual(standings(book, "aaaa....."), due)
        self.assertEqual(standings(book, "a.a.a.."), [])
        self.assertEqual(standings(book, "."), [])

    def test_all_placings_with_this_head(self):
        for book in books():
            for size, width in ((2, 3), (3, 4), (2, 4)):
                found = {}
                for placing in placings(book, size, width):
                    index, context, at, trees = placing
                    word = graft(book.kinds, context, at, graft_all(book.kinds, heads(book)[index], list(trees)))
                    found.setdefault(word, []).append(placing)
                for word in support.words_with(book.kinds, size, width):
                    self.assertEqual(sorted(standings(book, word)), sorted(found.get(word, [])))

    def test_texts_that_are_no_trees(self):
        for book in (read_book("0 2"), read_book(EXAMPLE)):
            for word in WRONG_TREES:
                self.assertRaises(NotTree, standings, book, word)
                self.assertRaises(NotTree, is_low, book, word)

    def test_large_trees(self):
        book = read_book(EXAMPLE)
        self.assertEqual(len(standings(book, "a" * 9 + "." * 10)), 8)
        self.assertIs(is_low(book, "a" * 9 + "." * 10), False)
        self.assertIs(is_low(book, "a." * 9 + "."), True)


class LowTrees(unittest.TestCase):
    def test_against_models(self):
        for book in books():
            for size, width in FORMS:
                if len(support.words_with(book.kinds, size, width)) <= 300:
                    due = [word for word in support.words_with(book.kinds, size, width)
                           if not support.standings(book.kinds, support.heads(book), word)]
                    self.assertEqual(low_trees(book, size, width), due)

    def test_example(self):
        book = read_book(EXAMPLE)
        self.assertEqual(low_trees(book, 3, 4), ["a.a.a.."])
        self.assertEqual(low_trees(book, 6, 7), ["a." * 6 + "."])
        self.assertEqual(low_trees(book, 0, 1), ["."])
        self.assertEqual(low_trees(book, 2, 5), [])

    def test_errors(self):
        book = read_book(EXAMPLE)
        for size, width in ((-1, 3), (10, 3), (3, 0), (3, 15), (10, 15)):
            self.assertRaises(BadNumber, low_trees, book, size, width)
        self.assertRaises(TooLarge, low_trees, book, 7, 8)
        self.assertEqual(len(low_trees(read_book("0 3"), 5, 11)), 273)
        low_trees(book, 3, 4).clear()
        self.assertEqual(low_trees(book, 3, 4), ["a.a.a.."])

    def test_parts_of_low_trees_are_low(self):
        for book in books():
            for word in words_of(book):
                model = support.model_of(book.kinds, word)
                below = [support.text(part) for part in support.parts(model)]
                if is_low(book, word):
                    self.assertTrue(all(is_low(book, part) for part in below))
                else:
                    letter = "a" + "." * book.kinds[0]
                    self.assertFalse(is_low(book, graft(book.kinds, letter, 1, word)))
                    self.assertFalse(is_low(book, graft(book.kinds, word, 0, letter)))


class Steps(unittest.TestCase):
    def test_first_step(self):
        numbers = support.Numbers(61)
        for book in books():
            for one in random_sums(numbers, book):
                word, due = support.first_step(book, support.as_dict(one))
                self.assertEqual(first_step(book, one), due)
                if due is not None:
                    made = step_down(book, one, due)
                    self.assertEqual(support.as_dict(made), support.stepped(book, support.as_dict(one), word, due))

    def test_each_step(self):
        numbers = support.Numbers(67)
        for book in books():
            for one in random_sums(numbers, book):
                words = support.words_with(book.kinds, one.size, one.width)
                for word, _ in one.terms():
                    for placing in standings(book, word):
                        made = step_down(book, one, placing)
                        due = support.stepped(book, support.as_dict(one), word, placing)
                        self.assertEqual(support.as_dict(made), due)
                        self.assertEqual(made.at(word), (0, 1))
                        for other in words[words.index(word) + 1:]:
                            self.assertEqual(made.at(other), one.at(other))

    def test_by_hand(self):
        book = read_book(EXAMPLE)
        one = Sum(0, (2,), 3, 4, [("aaa....", (1, 1))])
        self.assertEqual(first_step(book, one), (0, ".", 0, ("a..", ".", ".")))
        one = step_down(book, one, (0, ".", 0, ("a..", ".", ".")))
        self.assertEqual(one.terms(), [("aa..a..", (1, 1))])
        one = step_down(book, one, (0, ".", 0, (".", ".", "a..")))
        self.assertEqual(one.terms(), [("a.a.a..", (1, 1))])
        self.assertIsNone(first_step(book, one))
        self.assertIsNone(first_step(book, zero_sum(0, (2,), 3, 4)))
        self.assertIsNone(first_step(read_book("0 2"), Sum(0, (2,), 3, 4, [("aaa....", (1, 1))])))

    def test_the_number_of_the_head(self):
        book = read_book("0 2 ; 2 3 3 a.a.. 2 aa...")
        one = Sum(0, (2,), 2, 3, [("aa...", (5, 1)), ("a.a..", (1, 1))])
        self.assertEqual(step_down(book, one, (0, ".", 0, (".",) * 3)).terms(), [("a.a..", (-13, 2))])
        book = read_book("7 2 ; 2 3 3 a.a.. 2 aa...")
        one = Sum(7, (2,), 2, 3, [("aa...", (5, 1)), ("a.a..", (1, 1))])
        self.assertEqual(step_down(book, one, (0, ".", 0, (".",) * 3)).terms(), [("a.a..", (4, 1))])

    def test_placings_that_are_no_step(self):
        book = read_book(EXAMPLE)
        one = Sum(0, (2,), 3, 4, [("aaa....", (1, 1)), ("a.a.a..", (1, 1))])
        no_steps = [
            (0, ".", 0, (".", ".", ".")), (0, ".", 0, (".", "a..", ".")), (0, "a..", 1, (".", ".", ".")),
            (0, "aa...", 0, (".", ".", ".")), (0, "a..", 0, ("a..", ".", ".")),
        ]
        for placing in no_steps:
            self.assertRaises(BadNumber, step_down, book, one, placing)
            self.assertRaises(BadNumber, walked, book, one, [placing])
            self.assertRaises(BadNumber, step_down, book, one - one, placing)
        no_placings = [(1, ".", 0, (".",) * 3), (-1, ".", 0, (".",) * 3), (0, "..", 0, (".",) * 3), (0, ".", 1, (".",) * 3),
                       (0, ".", 0, (".",) * 2), (0, ".", 0, (".", ".", "b.."))]
        for placing in no_placings:
            self.assertRaises(NotPlacing, step_down, book, one, placing)
            self.assertRaises(NotPlacing, walked, book, one, [placing])
        large = (0, "a" * 8 + "." * 9, 0, (".",) * 3)
        self.assertRaises(TooLarge, step_down, book, one, large)
        self.assertRaises(TooLarge, walked, book, one, [large])

    def test_other_fields_and_kinds_first(self):
        book = read_book(EXAMPLE)
        for wrong in (zero_sum(2, (2,), 3, 4), zero_sum(0, (3,), 3, 4), zero_sum(0, (2, 2), 3, 4)):
            self.assertRaises(BadNumber, first_step, book, wrong)
            self.assertRaises(BadNumber, down, book, wrong)
            self.assertRaises(BadNumber, walked, book, wrong, [])
            for placing in ((1, ".", 0, ()), (0, "a" * 8 + "." * 9, 0, (".",) * 3)):
                self.assertRaises(BadNumber, step_down, book, wrong, placing)
                self.assertRaises(BadNumber, walked, book, wrong, [placing])


class GoingDown(unittest.TestCase):
    def test_first_steps_one_after_the_other(self):
        numbers = support.Numbers(71)
        for book in books():
            for one in random_sums(numbers, book):
                told = support.as_dict(one)
                due = []
                while True:
                    word, placing = support.first_step(book, told)
                    if placing is None:
                        break
                    due.append(placing)
                    told = support.stepped(book, told, word, placing)
                end, chain = down(book, one)
                self.assertEqual(chain, due)
                self.assertEqual(support.as_dict(end), told)
                self.assertEqual(walked(book, one, chain), end)
                self.assertTrue(all(is_low(book, tree) for tree, _ in end.terms()))
                self.assertEqual((end.p, end.kinds, end.size, end.width), (one.p, one.kinds, one.size, one.width))

    def test_the_difference_is_what_was_placed(self):
        numbers = support.Numbers(73)
        for book in books():
            for one in random_sums(numbers, book):
                end, chain = down(book, one)
                left = one
                pairs = []
                for placing in chain:
                    word = next(word for word, _ in left.terms() if placing in standings(book, word))
                    lead = support.worth(book.p, book.relations()[placing[0]].head()[1])
                    by = support.worth(book.p, left.at(word)) * support.inverse(book.p, lead)
                    pairs.append((support.pair(book.p, by), placing))
                    left = step_down(book, left, placing)
                self.assertEqual(left, end)
                self.assertEqual(combined(book, one.size, one.width, pairs), one - end)
                if len(listed(book.kinds, one.size, one.width)) <= 60:
                    self.assertTrue(are_alike(book, one, end))

    def test_example(self):
        book = read_book(EXAMPLE)
        end, chain = down(book, Sum(0, (2,), 3, 4, [("aaa....", (1, 1))]))
        self.assertEqual(end.terms(), [("a.a.a..", (1, 1))])
        self.assertEqual(chain, [(0, ".", 0, ("a..", ".", ".")), (0, ".", 0, (".", ".", "a.."))])
        for word in listed((2,), 3, 4):
            self.assertEqual(down(book, Sum(0, (2,), 3, 4, [(word, (2, 3))]))[0].terms(), [("a.a.a..", (2, 3))])

    def test_chains_by_other_ways(self):
        numbers = support.Numbers(79)
        for text in COMPLETE:
            book = read_book(text)
            for one in random_sums(numbers, book):
                due, _ = down(book, one)
                for _ in range(3):
                    left, chain = one, []
                    while True:
                        ways = [placing for word, _ in left.terms() for placing in standings(book, word)]
                        if not ways:
                            break
                        chain.append(ways[numbers.below(len(ways))])
                        left = step_down(book, left, chain[-1])
                    self.assertEqual(left, due)
                    self.assertEqual(walked(book, one, chain), due)
                self.assertEqual(due, plain(book, one))
                self.assertIs(len(due) == 0, is_lost(book, one))

    def test_complete_books_have_low_trees_that_are_kept(self):
        for text in COMPLETE:
            book = read_book(text)
            for size in range(4):
                self.assertEqual(low_trees(book, size, size + 1), kept_trees(book, size, size + 1))

    def test_walking(self):
        book = read_book(EXAMPLE)
        one = Sum(0, (2,), 3, 4, [("aaa....", (1, 1))])
        self.assertEqual(walked(book, one, []), one)
        chain = [(0, "a..", 0, (".",) * 3), (0, ".", 0, (".", "a..", ".")), (0, "a..", 1, (".",) * 3)]
        self.assertEqual(walked(book, one, chain).terms(), [("a.a.a..", (1, 1))])
        self.assertEqual(walked(book, one, chain[:2]).terms(), [("a.aa...", (1, 1))])
        self.assertEqual(len(chain), 3)
        for wrong, error in ((chain[2], BadNumber), ((0, ".", 5, (".",) * 3), NotPlacing)):
            self.assertRaises(error, walked, book, one, [wrong] + chain)
            self.assertRaises(error, walked, book, one, chain + [wrong])
            self.assertRaises(error, walked, book, one, chain[:1] + [wrong, (9, ".", 0, ())])
        # The tree is there at first, but the step before has taken it away.
        self.assertRaises(BadNumber, walked, book, one, [chain[0], chain[0]])

    def test_sums_stay(self):
        book = read_book(EXAMPLE)
        one = Sum(0, (2,), 3, 4, [("aaa....", (1, 1))])
        _, chain = down(book, one)
        copy = list(chain)
        walked(book, one, chain)
        self.assertEqual(chain, copy)
        chain.clear()
        heads(book).clear()
        standings(book, "aaa....").clear()
        self.assertEqual(down(book, one)[1], copy)
        self.assertEqual(one.terms(), [("aaa....", (1, 1))])
        self.assertEqual(book, read_book(EXAMPLE))


class ManySteps(unittest.TestCase):
    def test_just_1000_steps(self):
        # With a relation of one tree, each tree in which it stands is one step.
        book = read_book("0 2 ; 2 3 1 aa...")
        words = [word for word in rows_of_trees((2,), 1, 8, 9, {}) if "aa" in word]
        self.assertGreater(len(words), 1001)
        for many in (999, 1000):
            one = Sum(0, (2,), 8, 9, [(word, (1, 1)) for word in words[:many]])
            end, chain = down(book, one)
            self.assertEqual((len(end), len(chain)), (0, many))
            self.assertEqual(len(walked(book, one, chain)), 0)
        one = Sum(0, (2,), 8, 9, [(word, (1, 1)) for word in words[:1001]])
        self.assertRaises(TooLarge, down, book, one)
        low = Sum(0, (2,), 8, 9, [("a." * 8 + ".", (1, 1))])
        one = Sum(0, (2,), 8, 9, [(word, (1, 1)) for word in words[:1000]]) + low
        self.assertEqual(down(book, one)[0], low)

    def test_steps_in_a_row(self):
        # Over fractions, with more terms in a relation, the steps of one tree are many.
        book = read_book("0 2 ; 2 3 1/2 a.a.. 1 aa...")
        one = Sum(0, (2,), 9, 10, [("a" * 9 + "." * 10, (1, 1))])
        end, chain = down(book, one)
        self.assertEqual(walked(book, one, chain), end)
        self.assertEqual([tree for tree, _ in end.terms()], ["a." * 9 + "."])

    def test_without_relations(self):
        one = Sum(0, (2,), 9, 10, [("a" * 9 + "." * 10, (1, 1))])
        self.assertEqual(down(Book(0, (2,), []), one), (one, []))
