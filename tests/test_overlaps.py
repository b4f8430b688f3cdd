import itertools
import unittest

from graftworth.alike import are_alike, is_lost, kept_trees
from graftworth.books import Book, placed, placings, read_book, text_of_book
from graftworth.errors import BadNumber, NotPlacing, TooLarge
from graftworth.overlaps import completed, difference, first_clash, is_complete, overlaps, tidied
from graftworth.steps import down, heads, low_trees
from graftworth.sums import Sum
from graftworth.trees import rows_of_trees
import support

EXAMPLE = "0 2 ; 2 3 -1 a.a.. 1 aa..."
OPPOSITE = "0 2 ; 2 3 1 a.a.. 1 aa..."
TEXTS = [
    "0 2", EXAMPLE, OPPOSITE, "2 2 ; 2 3 1 a.a.. 1 aa...", "5 2 ; 2 3 1 a.a.. 2 aa...",
    # Heads that stand in one another, and two relations with one head.
    "0 2 ; 2 3 1 aa... ; 2 3 2 a.a.. 2 aa... ; 3 4 -1 aa..a.. 1 aaa....", "0 2 ; 3 4 2 a.aa... 3 aaa.... ; 3 4 1 aa.a... 1 aaa....",
    "7 2 ; 3 4 1 a.a.a.. 3 aa..a.. ; 2 3 1 a.a..", "0 2 ; 4 5 6 aa.a.a... -1/2 aaa...a.. ; 3 4 1 aa..a..",
    "0 3 ; 2 5 -3 a.a.... -3 aa.....", "3 3 ; 2 5 1 a..a... 2 aa.....",
    "0 22 ; 2 3 -1 a.a.. 1 aa... ; 2 3 -1 b.b.. 1 bb... ; 2 3 -2 a.b.. 1 ba...",
    "0 22 ; 2 3 -2 a.a.. 5 a.b.. 3 aa...", "2 22 ; 2 3 1 b.a.. 1 ba... ; 2 3 1 a.a.. 1 aa... 1 bb...",
    "5 22 ; 1 2 1 a.. 2 b.. ; 2 3 1 a.b..", "0 32 ; 2 4 1 a..b.. 5/4 a.b... 1/3 b.a... -1 ab.... ; 2 3 2 b.b.. 3 bb...",
    "0 232 ; 1 2 1 a.. -3 c.. ; 2 4 1 ab.... -1 ba....", "0 2 ; 1 2 3 a..", "0 2 ; 1 2 3 a.. ; 2 3 1 aa...",
    "0 2 ; 2 3 1 a.a.. 4 aa... ; 2 3 1 a.a.. 4 aa... ; 2 3 -2 a.a.. -8 aa...",
]
JUST_400 = ["aa..a.a.a..", "a.aa.aa....", "aaaa.a.....", "aaaa.....", "aa.a..aa...", "aa.a..aa...", "aaa...a..", "a.aa.a..a..",
            "a.aa.aa....", "aaa.a...a.a.."]
JUST_401 = ["aaa..aa....", "a.a.aa..a..", "aa.a..aa...", "aaaa....a..", "a.aa..a..", "aaa..a..a.a..", "a.a.aaa....",
            "aa.aa...a..", "a.a.a.aa...", "aaa..a.a..."]


def books():
    return [read_book(text) for text in TEXTS]


def of_trees(kinds, words, p=0, x=(1, 1)):
    """The book with relations of one tree each."""
    return Book(p, kinds, [Sum(p, kinds, len(word.replace(".", "")), word.count("."), [(word, x)]) for word in words])


def lost_form(book, size, width):
    """The echelon form of all that is placed, by all trees, descending."""
    words = support.words_with(book.kinds, size, width)[::-1]
    rows = []
    for placing in placings(book, size, width):
        told = support.as_dict(placed(book, placing))
        rows.append([told.get(word, 0) for word in words])
    return support.reduced(book.p, rows)


def forms(book, most=4):
    for size in range(1, most + 1):
        for width in range(2, 2 * size + 2):
            if 0 < len(support.words_with(book.kinds, size, width)) <= 60:
                yield size, width


class Overlaps(unittest.TestCase):
    def test_against_the_definition(self):
        for book in books():
            most = {(2,): 5, (3,): 4, (2, 2): 4, (3, 2): 3, (2, 3, 2): 3}[book.kinds]
            found = overlaps(book)
            self.assertEqual(len(set(found)), len(found))
            small = {overlap for overlap in found if len(overlap[0].replace(".", "")) <= most}
            self.assertEqual(small, support.overlaps_among(book, support.words_up_to(book.kinds, most)))
            # Of two relations, the tree of an overlap has fewer letters than both together.
            for tree, one, other in found:
                sizes = [book.relations()[placing[0]].size for placing in (one, other)]
                self.assertLess(len(tree.replace(".", "")), sum(sizes))

    def test_example(self):
        book = read_book(EXAMPLE)
        due = ("aaa....", (0, ".", 0, ("a..", ".", ".")), (0, "a..", 0, (".", ".", ".")))
        self.assertEqual(overlaps(book), [due])
        self.assertEqual(overlaps(read_book("0 2")), [])
        self.assertEqual(overlaps(read_book("0 2 ; 1 2 1 a..")), [])

    def test_which_is_told_first(self):
        book = of_trees((2,), ["aaa....", "aa...", "aa..."])
        root = (".", ".", ".")
        # Two relations with one head.
        self.assertIn(("aa...", (1, ".", 0, root), (2, ".", 0, root)), overlaps(book))
        self.assertNotIn(("aa...", (2, ".", 0, root), (1, ".", 0, root)), overlaps(book))
        # A head within another one, at its first letter and below it.
        whole = (0, ".", 0, (".",) * 4)
        self.assertIn(("aaa....", whole, (1, ".", 0, ("a..", ".", "."))), overlaps(book))
        self.assertIn(("aaa....", whole, (2, "a..", 0, root)), overlaps(book))
        # The first letter belongs to the relation with the greater number.
        self.assertIn(("aaaa.....", (2, ".", 0, ("aa...", ".", ".")), (0, "a..", 0, (".",) * 4)), overlaps(book))
        self.assertFalse([told for told in overlaps(book) if told[1] == told[2]])

    def test_trees_that_are_too_large(self):
        large = "aaaaaa" + "." * 7
        found = overlaps(of_trees((2,), [large]))
        self.assertEqual(sorted(len(tree.replace(".", "")) for tree, _, _ in found), [7, 8, 9])
        wide = "bbbb" + "." * 9
        found = overlaps(of_trees((2, 3), [wide]))
        self.assertEqual(sorted(tree.count(".") for tree, _, _ in found), [11, 13])

    def test_more_than_400(self):
        self.assertEqual(len(overlaps(of_trees((2,), JUST_400))), 400)
        self.assertTrue(is_complete(of_trees((2,), JUST_400), 6))
        book = of_trees((2,), JUST_401)
        self.assertRaises(TooLarge, overlaps, book)
        self.assertRaises(TooLarge, first_clash, book, 1)
        self.assertRaises(TooLarge, is_complete, book, 6)
        self.assertEqual(completed(of_trees((2,), JUST_400), 6), tidied(of_trees((2,), JUST_400)))
        # Ten trees of five letters, each of which overlaps with all others at each letter: 445 overlaps.
        book = of_trees((2,), support.words_with((2,), 5, 6)[:10])
        self.assertEqual(tidied(book), book)
        for size in (5, 6):
            self.assertRaises(TooLarge, completed, book, size)
            self.assertRaises(TooLarge, is_complete, book, size)

    def test_lists_of_their_own(self):
        book = read_book(EXAMPLE)
        overlaps(book).clear()
        self.assertEqual(len(overlaps(book)), 1)
        self.assertEqual(book, read_book(EXAMPLE))


class Differences(unittest.TestCase):
    def test_against_dicts(self):
        for book in books():
            for overlap in overlaps(book):
                tree, one, other = overlap
                pairs = []
                for placing, sign in ((one, 1), (other, -1)):
                    relation = book.relations()[placing[0]]
                    by = sign * support.inverse(book.p, support.worth(book.p, relation.head()[1]))
                    told = support.placed(book.kinds, support.as_dict(relation), placing)
                    self.assertIn(tree, told)
                    pairs.extend((word, w * by) for word, w in told.items())
                made = difference(book, overlap)
                self.assertEqual(support.as_dict(made), support.collected(book.p, pairs))
                self.assertEqual((made.size, made.width), (len(tree.replace(".", "")), tree.count(".")))
                self.assertEqual(made.at(tree), (0, 1))
                key = support.order_key
                self.assertTrue(all(key(book.kinds, word) < key(book.kinds, tree) for word, _ in made.terms()))

    def test_it_is_lost(self):
        for book in books():
            for overlap in overlaps(book):
                made = difference(book, overlap)
                if len(support.words_with(book.kinds, made.size, made.width)) <= 60:
                    self.assertTrue(is_lost(book, made))

    def test_example(self):
        book = read_book(EXAMPLE)
        overlap = overlaps(book)[0]
        made = difference(book, overlap)
        self.assertEqual(made.terms(), [("aa..a..", (-1, 1)), ("aa.a...", (1, 1))])
        self.assertEqual(len(down(book, made)[0]), 0)
        book = read_book(OPPOSITE)
        end = down(book, difference(book, overlap))[0]
        self.assertIn(end.terms(), ([("a.a.a..", (2, 1))], [("a.a.a..", (-2, 1))]))

    def test_what_is_no_overlap(self):
        for book in books():
            for tree, one, other in overlaps(book)[:20]:
                letter = "a" + "." * book.kinds[0]
                wrong = [(tree, other, one), (letter, one, other), (tree, one, one), (tree, other, other), ("", one, other),
                         (".", one, other), ("xyz", one, other), (tree + ".", one, other)]
                for overlap in wrong:
                    if overlap not in overlaps(book):
                        self.assertRaises(BadNumber, difference, book, overlap)

    def test_placings_of_other_trees(self):
        book = read_book(EXAMPLE)
        root = (".", ".", ".")
        wrong = [
            # The trees in which the heads stand differ, or the letters are not all covered.
            ("aaa....", (0, ".", 0, ("a..", ".", ".")), (0, "a..", 1, root)),
            ("aaaa.....", (0, ".", 0, ("aa...", ".", ".")), (0, "aa...", 0, root)),
            ("aaa..a..", (0, ".", 0, ("a..", ".", "a..")), (0, "a..", 0, (".", "a..", "."))),
            ("aaa.a...", (0, ".", 0, ("a.a..", ".", ".")), (0, "a..", 0, (".", "a..", "."))),
            ("aaaa.....", (0, "a..", 0, ("a..", ".", ".")), (0, "aa...", 0, root)),
            ("aa...", (0, ".", 0, root), (0, ".", 0, root)),
        ]
        for overlap in wrong:
            self.assertRaises(BadNumber, difference, book, overlap)

    def test_which_error_comes_first(self):
        book = read_book(EXAMPLE)
        right = (0, ".", 0, ("a..", ".", "."))
        none = (1, ".", 0, (".", ".", "."))
        large = (0, "a" * 8 + "." * 9, 0, (".", ".", "."))
        for first, second, error in ((none, right, NotPlacing), (none, large, NotPlacing), (large, none, TooLarge),
                                     (large, right, TooLarge), (right, none, NotPlacing), (right, large, TooLarge)):
            for tree in ("aaa....", "..", "aa..."):
                self.assertRaises(error, difference, book, (tree, first, second))


class Completeness(unittest.TestCase):
    def test_example(self):
        for size in range(1, 7):
            self.assertIs(is_complete(read_book(EXAMPLE), size), True)
            self.assertIsNone(first_clash(read_book(EXAMPLE), size))
            self.assertIs(is_complete(read_book(OPPOSITE), size), size < 3)
            self.assertIs(is_complete(read_book("2 2 ; 2 3 1 a.a.. 1 aa..."), size), True)
        self.assertEqual(first_clash(read_book(OPPOSITE), 3), overlaps(read_book(OPPOSITE))[0])

    def test_a_greater_clash_is_found_behind_a_lesser_one(self):
        words = ["0 22", "3 4 1 b.bb... 1 bbb....", "2 3 1 a.a.. 1 aa..."]
        self.assertEqual(len(first_clash(read_book(" ; ".join(words[:2])), 6)[0]), 2 * 4 + 1)
        for row in (words, [words[0]] + words[:0:-1]):
            for size in (3, 4, 5, 6):
                self.assertEqual(first_clash(read_book(" ; ".join(row)), size)[0], "aaa....")
            self.assertIsNone(first_clash(read_book(" ; ".join(row)), 2))

    def test_the_least_size(self):
        for book in books():
            bad = [overlap for overlap in overlaps(book) if len(down(book, difference(book, overlap))[0]) > 0]
            sizes = [len(overlap[0].replace(".", "")) for overlap in bad]
            for size in range(1, 7):
                found = first_clash(book, size)
                self.assertIs(is_complete(book, size), found is None)
                if sizes and min(sizes) <= size:
                    self.assertIn(found, bad)
                    self.assertEqual(len(found[0].replace(".", "")), min(sizes))
                else:
                    self.assertIsNone(found)

    def test_as_many_low_trees_as_kept_ones(self):
        for book in books():
            fine = True
            for size, width in forms(book):
                low, kept = low_trees(book, size, width), kept_trees(book, size, width)
                if is_complete(book, size):
                    self.assertEqual(low, kept)
                self.assertTrue(set(kept) <= set(low))
                fine = fine and len(low) == len(kept)
            if fine and len(book.kinds) == 1:
                self.assertTrue(is_complete(book, 4 if book.kinds == (2,) else 3))

    def test_sizes(self):
        for book in (read_book("0 2"), read_book(EXAMPLE), of_trees((2,), JUST_401)):
            for size in (0, -1, 7, 9, 10 ** 5000):
                for function in (first_clash, is_complete, completed):
                    self.assertRaises(BadNumber, function, book, size)

    def test_too_many_steps(self):
        # Two relations with one head: their difference is some trees, each of which is a step by the third relation.
        kinds = (2, 2, 2)
        top, low = "ccccc......", "a.b.a.b.c.."
        words = [word for word in rows_of_trees(kinds, 1, 5, 6, {}) if "aa" in word]
        self.assertGreater(len(words), 1001)
        relations = of_trees(kinds, ["aa...", top]).relations()
        for many in (1000, 1001):
            terms = [(word, (1, 1)) for word in words[:many] + [top]]
            book = Book(0, kinds, relations + [Sum(0, kinds, 5, 6, terms)])
            if many > 1000:
                self.assertRaises(TooLarge, is_complete, book, 5)
                self.assertRaises(TooLarge, first_clash, book, 6)
            else:
                self.assertIs(is_complete(book, 5), True)
            self.assertIs(is_complete(book, 4), True)
            self.assertEqual(tidied(book), of_trees(kinds, ["aa...", top]))
            more = Book(0, kinds, relations + [Sum(0, kinds, 5, 6, terms + [(low, (1, 1))])])
            self.assertEqual(heads(tidied(more)), ["aa...", low, top])


def is_tidy(book):
    told = [(one.size, one.width, support.order_key(book.kinds, one.head()[0])) for one in book.relations()]
    if any(one >= other for one, other in zip(told, told[1:])):
        return False
    for index, one in enumerate(book.relations()):
        if one.head()[1] != (1, 1):
            return False
        for at, other in enumerate(book.relations()):
            for tree, _ in other.terms():
                if support.standings(book.kinds, [one.head()[0]], tree) and (index != at or tree != one.head()[0]):
                    return False
    return True


def orders(book):
    """The book with its relations in other orders, and multiplied by numbers."""
    relations = book.relations()
    for row in list(itertools.permutations(relations))[:6]:
        yield Book(book.p, book.kinds, list(row))
    yield Book(book.p, book.kinds, [one.scaled(support.pair(book.p, -1)) for one in relations[::-1]])
    if book.p == 0:
        yield Book(0, book.kinds, [one.scaled((-7, 3)) for one in relations])


class TidyBooks(unittest.TestCase):
    def test_the_same_is_lost(self):
        for book in books():
            made = tidied(book)
            self.assertTrue(is_tidy(made), text_of_book(made))
            self.assertEqual((made.p, made.kinds), (book.p, book.kinds))
            self.assertLessEqual(len(made), len(book))
            for size, width in forms(book):
                self.assertEqual(lost_form(made, size, width), lost_form(book, size, width))

    def test_tidy_books_stay(self):
        for book in books():
            self.assertEqual(tidied(tidied(book)), tidied(book))

    def test_by_hand(self):
        def check(text, due):
            self.assertEqual(text_of_book(tidied(read_book(text))), due)

        check("0 2", "0 2")
        check("0 2 ; 2 3 3 aa...", "0 2 ; 2 3 1 aa...")
        check("0 2 ; 2 3 2 a.a.. -4 aa...", "0 2 ; 2 3 -1/2 a.a.. 1 aa...")
        check("7 2 ; 2 3 2 a.a.. 4 aa...", "7 2 ; 2 3 4 a.a.. 1 aa...")
        # Multiples of one another, and two relations with one head.
        check("0 2 ; 2 3 1 a.a.. 2 aa... ; 2 3 -3 a.a.. -6 aa...", "0 2 ; 2 3 1/2 a.a.. 1 aa...")
        check("0 2 ; 2 3 1 a.a.. 2 aa... ; 2 3 1 a.a.. 1 aa...", "0 2 ; 2 3 1 a.a.. ; 2 3 1 aa...")
        # A head that stands in another one: what is left of the greater relation has another head, or is 0.
        check("0 2 ; 3 4 1 a.a.a.. 1 aaa.... ; 2 3 -1 a.a.. 1 aa...", "0 2 ; 2 3 -1 a.a.. 1 aa... ; 3 4 1 a.a.a..")
        check("0 2 ; 3 4 -1 a.a.a.. 1 aaa.... ; 2 3 -1 a.a.. 1 aa...", EXAMPLE)
        check("0 2 ; 2 3 1 aa... ; 1 2 1 a..", "0 2 ; 1 2 1 a..")
        check("0 2 ; 6 7 2 aaaaaa....... ; 5 6 1 a.a.a.a.a..", "0 2 ; 5 6 1 a.a.a.a.a.. ; 6 7 1 aaaaaa.......")
        # By sizes, then widths, then heads.
        check("0 23 ; 2 4 1 ab.... ; 2 3 1 aa... ; 2 4 1 a.b... ; 1 3 1/2 b...", "0 23 ; 1 3 1 b... ; 2 3 1 aa...")
        check("0 23 ; 2 5 1 bb..... ; 2 4 1 ab.... ; 2 4 1 a.b... ; 2 3 1 aa...",
              "0 23 ; 2 3 1 aa... ; 2 4 1 a.b... ; 2 4 1 ab.... ; 2 5 1 bb.....")

    def test_ten_relations(self):
        words = ["aaa....", "aa.a...", "aa..a..", "a.aa...", "a.a.a.."]
        in_order = support.words_with((2,), 3, 4)
        self.assertEqual(sorted(words), sorted(in_order))
        self.assertEqual(tidied(of_trees((2,), words * 2)), of_trees((2,), in_order))
        ten = of_trees((2,), support.words_with((2,), 4, 5)[:10])
        self.assertEqual(tidied(ten), ten)
        self.assertEqual(tidied(Book(0, (2,), ten.relations()[::-1])), ten)

    def test_more_overlaps_than_can_be_listed(self):
        made = tidied(of_trees((2,), JUST_401))
        self.assertTrue(is_tidy(made))

    def test_books_stay(self):
        for text in TEXTS:
            book = read_book(text)
            tidied(book).relations().clear()
            self.assertEqual(text_of_book(book), text)


class CompletedBooks(unittest.TestCase):
    def least(self, book):
        return max([one.size for one in book.relations()], default=1)

    def test_complete_and_tidy(self):
        for book in books():
            for size in range(self.least(book), 7 if book.kinds == (2,) else 5):
                try:
                    made = completed(book, size)
                except TooLarge:
                    self.assertGreater(size, 3)
                    continue
                self.assertTrue(is_tidy(made))
                self.assertTrue(is_complete(made, size))
                self.assertTrue(all(one.size <= size for one in made.relations()))
                self.assertEqual((made.p, made.kinds), (book.p, book.kinds))
                self.assertEqual(completed(made, size), made)
                if is_complete(tidied(book), size):
                    self.assertEqual(made, tidied(book))

    def test_the_same_is_lost(self):
        for book in books():
            made = completed(book, max(3, self.least(book)))
            for size, width in forms(book):
                self.assertEqual(lost_form(made, size, width), lost_form(book, size, width))
                if size <= max(3, self.least(book)):
                    self.assertEqual(low_trees(made, size, width), kept_trees(book, size, width))

    def test_one_book_whatever_the_order(self):
        for book in books():
            size = max(3, self.least(book))
            due = completed(book, size)
            for other in orders(book):
                self.assertEqual(completed(other, size), due)
            more = Book(book.p, book.kinds, (book.relations() + due.relations())[:10])
            self.assertEqual(completed(more, size), due)

    def test_example(self):
        self.assertEqual(completed(read_book(EXAMPLE), 6), read_book(EXAMPLE))
        for size in range(3, 7):
            made = completed(read_book(OPPOSITE), size)
            self.assertEqual(text_of_book(made), OPPOSITE + " ; 3 4 1 a.a.a..")
        self.assertEqual(text_of_book(completed(read_book(OPPOSITE), 2)), OPPOSITE)
        two = read_book("2 2 ; 2 3 1 a.a.. 1 aa...")
        self.assertEqual(completed(two, 6), two)
        self.assertEqual(completed(read_book("0 2"), 6), read_book("0 2"))

    def test_ends_of_sums(self):
        made = completed(read_book(OPPOSITE), 6)
        for word in support.words_with((2,), 4, 5):
            one = Sum(0, (2,), 4, 5, [(word, (1, 1))])
            self.assertEqual(len(down(made, one)[0]), 0)
            self.assertTrue(are_alike(read_book(OPPOSITE), one, one - one))

    def test_sizes_less_than_a_relations(self):
        for book in books():
            for size in range(1, self.least(book)):
                self.assertRaises(BadNumber, completed, book, size)
        self.assertRaises(BadNumber, completed, read_book("0 2 ; 6 7 1 aaaaaa......."), 5)
        self.assertEqual(len(completed(read_book("0 2 ; 6 7 1 aaaaaa......."), 6)), 1)

    def heads_by_matrices(self, book, most):
        """The heads that a complete book up to a size must have, told by what is placed alone."""
        found = []
        for size in range(1, most + 1):
            for width in range(2, 2 * size + 2):
                words = support.words_with(book.kinds, size, width)
                kept = kept_trees(book, size, width) if words else []
                lost = [word for word in words if word not in kept]
                found.extend(word for word in lost if not support.standings(book.kinds, [
                    head for head in found if len(head.replace(".", "")) < size], word))
        return found

    def test_too_many_relations(self):
        texts = [
            ("0 22 ; 2 3 2 b.b.. 1 ab... 5 ba... 6 bb... ; 2 3 1 a.b.. -3 b.b.. -2 ba... 3 bb...", 4),
            ("0 2 ; 3 4 2/3 a.aa... 5/2 aa..a.. 2 aa.a...", 6), ("0 2 ; 3 4 6 a.a.a.. -1/2 a.aa... -5/3 aa.a...", 6),
            ("0 22 ; 2 3 1 b.a.. 1 ba... -3/2 bb... ; 2 3 4 a.a.. -4/3 aa... -1 bb...", 4),
        ]
        seen = {True: 0, False: 0}
        for text, size in texts:
            book = read_book(text)
            for most in range(3, size + 1):
                due = self.heads_by_matrices(book, most)
                seen[len(due) > 10] += 1
                if len(due) > 10:
                    self.assertRaises(TooLarge, completed, book, most)
                else:
                    self.assertEqual(heads(completed(book, most)), due)
        self.assertGreater(min(seen.values()), 1)

    def test_ten_relations(self):
        ten = of_trees((2,), support.words_with((2,), 4, 5)[:10])
        self.assertEqual(completed(ten, 6), ten)
        self.assertEqual(completed(Book(0, (2,), ten.relations()[::-1]), 4), ten)

    def test_books_stay(self):
        for text in TEXTS:
            book = read_book(text)
            completed(book, max(3, self.least(book))).relations().clear()
            self.assertEqual(text_of_book(book), text)
