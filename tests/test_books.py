import re
import unittest

from graftworth.books import (
    Book, check_placing, combined, placed, placings, read_book, text_of_book,
)
from graftworth.errors import BadNumber, Malformed, NotBook, NotKinds, NotNumber, NotPlacing, TooLarge
from graftworth.sums import Sum, text_of_sum, zero_sum
import support
from support import FIELDS, SOME_KINDS, WRONG_FIELDS, WRONG_KINDS, WRONG_TREES

EXAMPLE = "0 2 ; 2 3 -1 a.a.. 1 aa..."
NO_INDEXES = [-1, -2, -100, 100, 10 ** 5000, -10 ** 5000]


def random_book(numbers, p, kinds, forms):
    relations = [Sum(p, kinds, size, width, support.random_terms(numbers, p, kinds, size, width, 3))
                 for size, width in forms]
    return Book(p, kinds, relations)


def some_books():
    numbers = support.Numbers(21)
    forms = {
        (2,): [[], [(2, 3)], [(1, 2)], [(2, 3), (3, 4)], [(3, 4), (2, 3), (2, 3)]],
        (3,): [[(1, 3)], [(2, 5)], [(2, 5), (1, 3)]],
        (2, 2): [[(2, 3)], [(1, 2), (2, 3)]],
        (3, 2): [[(1, 2)], [(2, 4)], [(1, 3), (2, 3)], [(2, 4), (2, 5)]],
        (2, 3, 2): [[(1, 2)], [(2, 4), (1, 3)]],
    }
    return [random_book(numbers, p, kinds, row) for p in (0, 2, 7) for kinds in SOME_KINDS for row in forms[kinds]]


def relation(p=0, kinds=(2,), size=2, width=3, word="aa..."):
    return Sum(p, kinds, size, width, [(word, (1, 1))])


class WhatBooksAre(unittest.TestCase):
    def test_relations(self):
        for book in some_books():
            relations = book.relations()
            self.assertEqual(len(book), len(relations))
            self.assertEqual(Book(book.p, book.kinds, relations), book)
            self.assertEqual(Book(book.p, book.kinds, relations).relations(), relations)

    def test_lists_of_their_own(self):
        relations = [relation(), relation(word="a.a..")]
        book = Book(0, (2,), relations)
        self.assertEqual([text_of_sum(one) for one in relations], ["0 2 2 3 1 aa...", "0 2 2 3 1 a.a.."])
        relations.clear()
        book.relations().pop()
        self.assertEqual(len(book), 2)
        self.assertEqual([text_of_sum(one) for one in book.relations()], ["0 2 2 3 1 aa...", "0 2 2 3 1 a.a.."])
        self.assertEqual((book.p, book.kinds), (0, (2,)))

    def test_numbers_of_relations(self):
        for many in range(11):
            self.assertEqual(len(Book(0, (2,), [relation()] * many)), many)
        for many in (11, 12, 100):
            self.assertRaises(NotBook, Book, 0, (2,), [relation()] * many)

    def test_relations_that_are_wrong(self):
        wrong = [
            zero_sum(0, (2,), 2, 3), relation(p=2), relation(kinds=(2, 2)), relation(size=0, width=1, word="."),
            relation(size=7, width=8, word="a" * 7 + "." * 8), relation(size=9, width=10, word="a" * 9 + "." * 10),
            zero_sum(0, (2,), 7, 3),
        ]
        for one in wrong:
            self.assertRaises(NotBook, Book, 0, (2,), [one])
            self.assertRaises(NotBook, Book, 0, (2,), [relation(), one, relation()])
        for size in range(1, 7):
            one = relation(size=size, width=size + 1, word="a" * size + "." * (size + 1))
            self.assertEqual(Book(0, (2,), [one]).relations(), [one])
        one = relation(kinds=(3,), size=6, width=13, word="a" * 6 + "." * 13)
        self.assertEqual(Book(0, (3,), [one]).relations(), [one])

    def test_which_error_comes_first(self):
        for p in WRONG_FIELDS:
            self.assertRaises(BadNumber, Book, p, (2,), [])
            self.assertRaises(BadNumber, Book, p, (), [relation()] * 11)
        for kinds in WRONG_KINDS:
            self.assertRaises(NotKinds, Book, 0, kinds, [])
            self.assertRaises(NotKinds, Book, 0, kinds, [relation()] * 11)

    def test_equal(self):
        one, other = relation(), relation(word="a.a..")
        book = Book(0, (2,), [one, other])
        self.assertIs(book == Book(0, (2,), [relation(), relation(word="a.a..")]), True)
        for relations in ([other, one], [one], [one, other, one], [], [one, -other]):
            self.assertIs(book == Book(0, (2,), relations), False)
        empty = [Book(0, (2,), []), Book(2, (2,), []), Book(0, (3,), []), Book(0, (2, 2), [])]
        for at, first in enumerate(empty):
            self.assertEqual([first == second for second in empty], [at == index for index in range(4)])

    def test_mirrored(self):
        for book in some_books():
            made = book.mirrored()
            self.assertEqual((made.p, made.kinds), (book.p, book.kinds))
            self.assertEqual(made.relations(), [one.mirrored() for one in book.relations()])
            self.assertEqual(made.mirrored(), book)
        self.assertEqual(text_of_book(read_book(EXAMPLE).mirrored()), "0 2 ; 2 3 1 a.a.. -1 aa...")

    def test_lost_sums_are_lost_mirrored(self):
        for book in some_books():
            for placing in placings(book, 3, 4):
                index, context, at, trees = placing
                turned = support.text(support.turned(support.model_of(book.kinds, context)))
                rows = tuple(support.text(support.turned(support.model_of(book.kinds, tree))) for tree in trees[::-1])
                other = (index, turned, context.count(".") - 1 - at, rows)
                self.assertEqual(placed(book, placing).mirrored(), placed(book.mirrored(), other))


def wrong_placings(book, placing):
    """Placings with one part changed so that they are none."""
    index, context, at, trees = placing
    for other in NO_INDEXES + [len(book)]:
        yield other, context, at, trees
    for word in WRONG_TREES:
        if not support.stands_for_tree(book.kinds, word):
            yield index, word, at, trees
            for place in range(len(trees)):
                yield index, context, at, trees[:place] + (word,) + trees[place + 1:]
    for other in NO_INDEXES + [context.count(".")]:
        yield index, context, other, trees
    yield index, context, at, trees[:-1]
    yield index, context, at, trees + (".",)
    yield index, context, at, ()
    yield index, "a" * 10 + "." * (10 * book.kinds[0] - 9), at, trees


class Placings(unittest.TestCase):
    def check_forms(self, book, most):
        forms = [(one.size, one.width) for one in book.relations()]
        for size in range(most + 1):
            for width in range(1, 2 * size + 3):
                due = support.all_placings(book.kinds, forms, size, width)
                if len(due) > 400:
                    self.assertRaises(TooLarge, placings, book, size, width)
                    continue
                found = placings(book, size, width)
                self.assertEqual(len(found), len(due))
                self.assertEqual(len(set(found)), len(due))
                self.assertEqual(set(found), set(due))

    def test_each_once_and_none_missing(self):
        for book in some_books():
            self.check_forms(book, 4 if len(book.kinds) == 1 else 3)

    def test_what_is_placed(self):
        for book in some_books():
            for width in (3, 4, 5):
                for placing in placings(book, 3, width):
                    self.assertIsNone(check_placing(book, placing))
                    made = placed(book, placing)
                    self.assertEqual((made.p, made.kinds, made.size, made.width), (book.p, book.kinds, 3, width))
                    one = support.as_dict(book.relations()[placing[0]])
                    self.assertEqual(support.as_dict(made), support.placed(book.kinds, one, placing))

    def test_example(self):
        book = read_book(EXAMPLE)
        due = [(0, "a..", 0, (".",) * 3), (0, "a..", 1, (".",) * 3), (0, ".", 0, ("a..", ".", ".")),
               (0, ".", 0, (".", "a..", ".")), (0, ".", 0, (".", ".", "a.."))]
        self.assertEqual(sorted(placings(book, 3, 4)), sorted(due))
        self.assertEqual(text_of_book(book), EXAMPLE)
        self.assertEqual(placings(book, 2, 3), [(0, ".", 0, (".", ".", "."))])
        for size, width in ((0, 1), (1, 2), (2, 4), (3, 3), (9, 14)):
            self.assertEqual(placings(book, size, width), [])

    def test_different_placings_of_one_sum(self):
        book = read_book("0 2 ; 1 2 1 a..")
        found = placings(book, 3, 4)
        self.assertEqual(len(found), 15)
        self.assertEqual(len(set(text_of_sum(placed(book, placing)) for placing in found)), 5)

    def test_sizes_and_widths(self):
        book = read_book(EXAMPLE)
        for size in (-1, 10, 10 ** 5000):
            self.assertRaises(BadNumber, placings, book, size, 3)
        for width in (0, -1, 15, 10 ** 5000):
            self.assertRaises(BadNumber, placings, book, 3, width)

    def test_too_many(self):
        book = read_book(EXAMPLE)
        self.assertEqual([len(placings(book, size, size + 1)) for size in range(2, 7)], [1, 5, 21, 84, 330])
        # There are 1287 of seven letters.
        for size in (7, 8, 9):
            self.assertRaises(TooLarge, placings, book, size, size + 1)
        # Each letter of the 14 trees of four letters belongs to one placing of each of these relations.
        seven, eight = [Book(0, (2,), [relation(word="a..", size=1, width=2)] * many) for many in (7, 8)]
        self.assertEqual(len(placings(seven, 4, 5)), 7 * 4 * 14)
        self.assertRaises(TooLarge, placings, eight, 4, 5)

    def test_number_of_placings(self):
        for kinds in SOME_KINDS:
            for many, wide in ((1, kinds[0]), (2, 2 * kinds[0] - 1), (2, 4), (3, 5)):
                words = support.words_with(kinds, many, wide)
                book = Book(0, kinds, [Sum(0, kinds, many, wide, [(words[0], (1, 1))])]) if words else Book(0, kinds, [])
                for size in range(5):
                    for width in range(1, 10):
                        shapes = [(one.size, one.width) for one in book.relations()]
                        if len(support.words_with(kinds, size, width)) > 300:
                            continue
                        due = len(support.all_placings(kinds, shapes, size, width))
                        if due > 400:
                            self.assertRaises(TooLarge, placings, book, size, width)
                        else:
                            self.assertEqual(len(placings(book, size, width)), due)

    def test_just_400(self):
        combs = [relation(word="a" * size + "." * (size + 1), size=size, width=size + 1) for size in range(1, 6)]
        self.assertEqual([len(placings(Book(0, (2,), [one]), 5, 6)) for one in combs], [210, 84, 28, 7, 1])
        some = combs[:1] + combs[1:2] * 2 + combs[3:4] * 3
        self.assertEqual(len(set(placings(Book(0, (2,), some + combs[4:]), 5, 6))), 400)
        self.assertEqual(len(placings(Book(0, (2,), some + combs[4:]), 5, 6)), 400)
        self.assertRaises(TooLarge, placings, Book(0, (2,), some + combs[4:] * 2), 5, 6)

    def test_arguments_stay(self):
        book = read_book(EXAMPLE)
        placings(book, 3, 4).clear()
        self.assertEqual(len(placings(book, 3, 4)), 5)
        self.assertEqual(text_of_book(book), EXAMPLE)


class WrongPlacings(unittest.TestCase):
    def test_each_part(self):
        for book in some_books():
            if len(book) > 0:
                for placing in placings(book, 3, 4)[:4]:
                    for wrong in wrong_placings(book, placing):
                        self.assertRaises(NotPlacing, check_placing, book, wrong)
                        self.assertRaises(NotPlacing, placed, book, wrong)
        self.assertRaises(NotPlacing, check_placing, Book(0, (2,), []), (0, ".", 0, ()))

    def test_too_large(self):
        book = read_book(EXAMPLE)
        right = [(0, "a" * 7 + "." * 8, 0, (".", ".", ".")), (0, ".", 0, (".", "a" * 7 + "." * 8, ".")),
                 (0, "a..", 1, ("aa...", "aa...", "aa..."))]
        for placing in right:
            self.assertIsNone(check_placing(book, placing))
            self.assertEqual(placed(book, placing).size, 9)
        large = [(0, "a" * 8 + "." * 9, 0, (".", ".", ".")), (0, ".", 0, (".", "a" * 8 + "." * 9, ".")),
                 (0, "a..", 1, ("aa...", "aaa....", "aa...")), (0, "a" * 9 + "." * 10, 9, ("a" * 9 + "." * 10,) * 3)]
        for placing in large:
            self.assertRaises(TooLarge, check_placing, book, placing)
            self.assertRaises(TooLarge, placed, book, placing)
            self.assertRaises(NotPlacing, check_placing, book, (1,) + placing[1:])
            self.assertRaises(NotPlacing, check_placing, book, placing[:2] + (10,) + placing[3:])
            self.assertRaises(NotPlacing, check_placing, book, placing[:3] + (placing[3] + (".",),))

    def test_too_wide(self):
        book = read_book("0 3 ; 1 3 1 a...")
        wide = (0, "aaa" + "." * 7, 6, ("aa.....", "a...", "."))
        self.assertRaises(TooLarge, placed, book, wide)
        self.assertRaises(TooLarge, check_placing, book, wide)
        self.assertEqual(placed(book, (0, "aaa" + "." * 7, 6, ("a...", "a...", "."))).width, 13)
        mixed = read_book("0 32 ; 2 4 1 ab....")
        self.assertEqual(placed(mixed, (0, "aaaaa" + "." * 11, 0, (".",) * 4)).width, 14)
        for at in (0, 10):
            self.assertIsNone(check_placing(mixed, (0, "aaaaa" + "." * 11, at, (".",) * 4)))
            self.assertRaises(TooLarge, check_placing, mixed, (0, "aaaaab" + "." * 12, at, (".",) * 4))
            self.assertRaises(TooLarge, placed, mixed, (0, "aaaaab" + "." * 12, at, (".",) * 4))
        self.assertIsNone(check_placing(mixed, (0, ".", 0, ("aa.....", "aa.....", "a...", "."))))
        self.assertRaises(TooLarge, check_placing, mixed, (0, ".", 0, ("aa.....", "aa.....", "a...", "b..")))


class Combined(unittest.TestCase):
    def test_against_dicts(self):
        numbers = support.Numbers(4)
        for book in some_books():
            found = placings(book, 3, 4)
            for _ in range(3):
                pairs = []
                for _ in range(numbers.below(6) if found else 0):
                    pairs.append((support.some_number(numbers, book.p), found[numbers.below(len(found))]))
                copy = list(pairs)
                due = []
                for x, placing in pairs:
                    one = support.as_dict(book.relations()[placing[0]])
                    for tree, w in support.placed(book.kinds, one, placing).items():
                        due.append((tree, w * support.worth(book.p, x)))
                made = combined(book, 3, 4, pairs)
                self.assertEqual(support.as_dict(made), support.collected(book.p, due))
                self.assertEqual((made.p, made.kinds, made.size, made.width), (book.p, book.kinds, 3, 4))
                self.assertEqual(pairs, copy)

    def test_no_pairs_and_what_comes_to_0(self):
        book = read_book(EXAMPLE)
        placing = (0, "a..", 0, (".", ".", "."))
        for size, width in ((3, 4), (0, 1), (9, 14)):
            self.assertEqual(combined(book, size, width, []), zero_sum(0, (2,), size, width))
        for pairs in ([((0, 1), placing)], [((1, 2), placing), ((-1, 2), placing)], [((0, 1), placing)] * 500):
            self.assertEqual(combined(book, 3, 4, pairs), zero_sum(0, (2,), 3, 4))
        self.assertEqual(combined(book, 3, 4, [((1, 2), placing), ((1, 2), placing)]), placed(book, placing))

    def test_which_error_comes_first(self):
        book = read_book(EXAMPLE)
        right = ((1, 1), (0, "a..", 0, (".", ".", ".")))
        no_number = ((2, 2), (7, "a..", 0, (".", ".", ".")))
        no_placing = ((1, 1), (7, "a..", 0, (".", ".", ".")))
        large = ((1, 1), (0, "a" * 8 + "." * 9, 0, (".", ".", ".")))
        other = ((1, 1), (0, ".", 0, (".", ".", ".")))
        due = [(no_number, NotNumber), (no_placing, NotPlacing), (large, TooLarge), (other, BadNumber)]
        for pair, error in due:
            self.assertRaises(error, combined, book, 3, 4, [pair])
            for behind, _ in due:
                self.assertRaises(error, combined, book, 3, 4, [right, pair, behind])
                for size, width in ((-1, 4), (10, 4), (3, 0), (3, 15)):
                    self.assertRaises(BadNumber, combined, book, size, width, [pair, behind])
        self.assertRaises(BadNumber, combined, book, 3, 5, [right])
        self.assertRaises(BadNumber, combined, book, 4, 4, [right])
        self.assertRaises(NotNumber, combined, book, 3, 4, [((1, 0), right[1])])
        self.assertRaises(NotNumber, combined, read_book("7" + EXAMPLE[1:].replace("-1", "6")), 3, 4, [((7, 1), right[1])])

    def test_what_may_be_done_with_lost_sums(self):
        numbers = support.Numbers(9)
        for book in some_books():
            found = placings(book, 2, 3)
            if not found:
                continue
            placing = found[numbers.below(len(found))]
            index, context, at, trees = placing
            one = placed(book, placing)
            letter = "a" + "." * book.kinds[0]
            for dot in range(book.kinds[0]):
                due = (index, support.grafted(book.kinds, letter, dot, context), at + dot, trees)
                self.assertEqual(one.under(letter, dot), placed(book, due))


def first_wrong_word(text):
    """The number of the first wrong word of a text, or None if it is that of a book; fields 0 and 7 alone."""
    words = text.split(" ")
    starts = [r"(0|2|3|5|7|11|13|17|19|23|29|31)", r"[23]{1,3}"]
    for at, start in enumerate(starts):
        if at >= len(words) or not re.fullmatch(start, words[at]):
            return at
    p, kinds = int(words[0]), tuple(int(figure) for figure in words[1])
    state, marks, size, width, before = "mark or end", 0, 0, 0, None
    for at, word in enumerate(words[2:], start=2):
        if word == ";" and state in ("mark or end", "number or mark or end"):
            marks += 1
            if marks == 11:
                return at
            state = "size"
        elif state == "size" and re.fullmatch("[1-6]", word):
            size, state = int(word), "width"
        elif state == "width" and re.fullmatch("[1-9]|1[0-4]", word):
            width, state, before = int(word), "number", None
        elif state in ("number", "number or mark or end") and is_text_of_number(p, word):
            state = "tree"
        elif state == "tree" and support.stands_for_tree(kinds, word):
            model = support.model_of(kinds, word)
            if (support.letters(model), support.dots(model)) != (size, width):
                return at
            if before is not None and support.compared(before, model) != -1:
                return at
            before, state = model, "number or mark or end"
        else:
            return at
    return None if state in ("mark or end", "number or mark or end") else len(words)


def is_text_of_number(p, word):
    if p == 0:
        return word in ("1/2", "-1/2", "2/3", "-7/4") or re.fullmatch("-?[1-9][0-9]{0,59}", word) is not None
    return word in [str(w) for w in range(1, p)]


class Texts(unittest.TestCase):
    def test_each_others_inverse(self):
        for book in some_books():
            text = text_of_book(book)
            self.assertEqual(read_book(text), book)
            self.assertEqual(text_of_book(read_book(text)), text)
            due = [str(book.p), "".join(str(held) for held in book.kinds)]
            for one in book.relations():
                due.extend([";"] + text_of_sum(one).split(" ")[2:])
            self.assertEqual(text, " ".join(due))
        for p in FIELDS:
            self.assertEqual(text_of_book(Book(p, (3, 2), [])), f"{p} 32")
            self.assertEqual(read_book(f"{p} 32"), Book(p, (3, 2), []))

    def test_words_changed_left_out_and_put_in(self):
        texts = [EXAMPLE, "7 32 ; 1 3 6 a... ; 2 4 1 ab.... 2 ba....", "0 2", "0 22 ; 1 2 1/2 a.. -7/4 b.. ; 1 2 1 b.."]
        others = ["", ";", "0", "1", "2", "3", "7", "-1", "01", "+1", "1/2", "2/4", "14", "15", "22", "2222", "a..", "aa...",
                  "a.a..", "b..", "a...", ".", ";;", "x", "9" * 61, "1" * 5000]
        seen = set()
        for text in texts:
            words = text.split(" ")
            self.assertIsNone(first_wrong_word(text))
            for at in range(len(words) + 1):
                changed = [words[:at] + [other] + words[at:] for other in others] + [words[:at], words[:at] + words[at + 1:]]
                changed.extend(words[:at] + [other] + words[at + 1:] for other in others if at < len(words))
                for row in changed:
                    due = first_wrong_word(" ".join(row))
                    seen.add(due)
                    if due is None:
                        self.assertEqual(text_of_book(read_book(" ".join(row))), " ".join(row))
                    else:
                        self.check(" ".join(row), due)
        self.assertEqual(seen, {None} | set(range(16)))

    def check(self, text, at):
        with self.assertRaises(Malformed) as caught:
            read_book(text)
        self.assertEqual(caught.exception.at, at, text)

    def test_by_hand(self):
        self.check("", 0)
        self.check("0", 1)
        self.check("0 ", 1)
        self.check("0 2 ", 2)
        self.check(" 0 2", 0)
        self.check("0  2", 1)
        self.check("0 2 ;", 3)
        self.check("0 2 ; ", 3)
        self.check("0 2 ; 2", 4)
        self.check("0 2 ; 2 3", 5)
        self.check("0 2 ; 2 3 ;", 5)
        self.check("0 2 ; 2 3 1", 6)
        self.check("0 2 ; 2 3 1 ;", 6)
        self.check("0 2 ; 2 3 0 aa...", 5)
        self.check("0 2 ; 0 1 1 .", 3)
        self.check("0 2 ; 7 8 1 aaaaaaa........", 3)
        self.check("0 2 ; 2 3 1 aa... ;", 8)
        self.check("0 2 ; 2 3 1 aa... 1 a.a..", 8)
        self.check("0 2 ; 2 3 1 aa... 1 aa...", 8)
        self.check("0 2 ; 2 3 1 aa... 1", 8)
        self.check("0 2 ; 2 3 1 aa... ; 2 3 1 a.a.. ", 12)
        self.check(EXAMPLE + " ", 9)
        self.check(" " + EXAMPLE, 0)
        self.check(EXAMPLE.replace(" ; ", " "), 2)
        self.check(EXAMPLE.replace(" ; ", " ;  "), 3)

    def test_an_eleventh_relation(self):
        one = " ; 1 2 1 a.."
        self.assertEqual(len(read_book("0 2" + one * 10)), 10)
        self.check("0 2" + one * 11, 52)
        self.check("0 2" + one * 10 + " ;", 52)
        self.check("0 2" + one * 10 + " ", 52)
        self.check("0 2" + one * 30, 52)
