import unittest

from graftworth.alike import are_alike, is_lost, plain
from graftworth.books import Book, placed, placings, read_book, text_of_book
from graftworth.errors import BadNumber, NotKinds, NotLeading, TooLarge
from graftworth.leadings import Leading, calm, first_wrong, gone, is_right
from graftworth.sums import Sum, read_sum, text_of_sum, zero_sum
import support

EXAMPLE = "0 2 ; 2 3 -1 a.a.. 1 aa..."
# Kinds, other kinds, and the step.
SHAPES = [
    ((2,), (2,), 1), ((3,), (3,), 1), ((2, 2), (2,), 1), ((2,), (2, 2), 1), ((2, 3), (3, 2), 1), ((3, 2), (2, 3, 2), 1),
    ((2, 3, 2), (2, 3), 1), ((3,), (2,), 2), ((3,), (2, 2), 2), ((3, 3), (2,), 2), ((3,), (2, 3), 2), ((3, 3), (2, 3), 1),
]


def random_leading(numbers, p, kinds, others, step):
    images = [Sum(p, others, step, held, support.random_terms(numbers, p, others, step, held, 3)) for held in kinds]
    return Leading(p, kinds, others, images)


def some_leadings():
    numbers = support.Numbers(51)
    for p in (0, 2, 7):
        for shape in SHAPES:
            yield random_leading(numbers, p, *shape)


def random_sum(numbers, p, kinds, size, width, most=3):
    return Sum(p, kinds, size, width, support.random_terms(numbers, p, kinds, size, width, most))


def model_image(leading, model):
    """The image of a model tree as pairs of a model tree and a fraction or a rest."""
    if model is None:
        return [(None, 1)]
    rows = [([], 1)]
    for part in model[1]:
        rows = [(row + [tree], w * x) for row, w in rows for tree, x in model_image(leading, part)]
    found = []
    for tree, w in support.as_dict(leading.images()["abc".index(model[0])]).items():
        outer = support.model_of(leading.others, tree)
        found.extend((support.filled(outer, list(row)), w * x) for row, x in rows)
    return found


def image_of(leading, one):
    pairs = []
    for tree, w in support.as_dict(one).items():
        inner = model_image(leading, support.model_of(leading.kinds, tree))
        pairs.extend((support.text(model), w * x) for model, x in inner)
    return support.collected(leading.p, pairs)


def forms(leading):
    for size in range(5):
        for width in range(1, 7):
            if size * leading.step() < 7 and len(support.words_with(leading.kinds, size, width)) <= 150:
                yield size, width


def only(word, p=0, kinds=(2,), x=(1, 1)):
    many = word.count(".")
    return Sum(p, kinds, len(word) - many, many, [(word, x)])


class WhatLeadingsAre(unittest.TestCase):
    def test_fields(self):
        for leading in some_leadings():
            images = leading.images()
            again = Leading(leading.p, leading.kinds, leading.others, images)
            self.assertEqual(again.images(), images)
            self.assertEqual((again.p, again.kinds, again.others), (leading.p, leading.kinds, leading.others))
            self.assertEqual(leading.step(), images[0].size)
            self.assertIs(again == leading, True)

    def test_lists_of_their_own(self):
        images = [only("a.."), only("a..", x=(2, 1))]
        leading = Leading(0, (2, 2), (2,), images)
        images.clear()
        self.assertEqual([text_of_sum(one) for one in leading.images()], ["0 2 1 2 1 a..", "0 2 1 2 2 a.."])
        leading.images().pop()
        self.assertEqual(len(leading.images()), 2)

    def test_images_that_are_zero(self):
        leading = Leading(0, (2, 3), (2,), [zero_sum(0, (2,), 1, 2), zero_sum(0, (2,), 1, 3)])
        self.assertEqual(leading.image(only("ab....", 0, (2, 3))), zero_sum(0, (2,), 2, 4))
        # No tree of two letters has two dots.
        self.assertEqual(Leading(0, (2,), (2,), [zero_sum(0, (2,), 2, 2)]).step(), 2)

    def test_wrong_fields_and_kinds(self):
        for p in support.WRONG_FIELDS:
            self.assertRaises(BadNumber, Leading, p, (), (), [])
            self.assertRaises(BadNumber, calm, p, ())
        for kinds in support.WRONG_KINDS + [(10 ** 5000,), (2, -10 ** 5000)]:
            self.assertRaises(NotKinds, Leading, 0, kinds, (2,), [])
            self.assertRaises(NotKinds, Leading, 0, (2,), kinds, [])
            self.assertRaises(NotKinds, calm, 0, kinds)

    def test_wrong_images(self):
        good, three = only("a.."), only("aa...")
        wrong = [
            ((2,), (2,), []), ((2,), (2,), [good, good]), ((2, 2), (2,), [good]), ((2, 2), (2,), [good] * 3),
            # Other fields and other kinds.
            ((2,), (2,), [only("a..", 3)]), ((2,), (2,), [only("a..", 0, (2, 2))]), ((2,), (2, 2), [good]),
            ((2, 2), (2,), [good, only("a..", 3)]), ((2, 2), (2,), [good, only("a..", 0, (2, 2))]),
            # Other widths.
            ((3,), (2,), [good]), ((2,), (3,), [only("a...", 0, (3,))]), ((2,), (2,), [three]), ((2, 3), (2, 3), [only("a..", 0, (2, 3))] * 2),
            ((3, 2), (2,), [three, three]),
            # Steps that differ, or are neither 1 nor 2.
            ((2, 3), (2,), [good, three]), ((3, 2), (2,), [three, good]), ((2,), (2,), [zero_sum(0, (2,), 0, 2)]),
            ((2,), (2,), [zero_sum(0, (2,), 3, 2)]), ((3,), (2,), [zero_sum(0, (2,), 3, 3)]), ((2,), (2,), [zero_sum(0, (2,), 9, 2)]),
            ((2, 2), (2,), [good, zero_sum(0, (2,), 2, 2)]), ((2, 2), (2,), [zero_sum(0, (2,), 2, 2), good]),
        ]
        for kinds, others, images in wrong:
            self.assertRaises(NotLeading, Leading, 0, kinds, others, images)
        self.assertEqual(Leading(0, (2,), (2,), [good]).step(), 1)
        self.assertEqual(Leading(0, (3,), (2,), [three]).step(), 2)

    def test_equal_ones(self):
        one = Leading(0, (2, 2), (2,), [only("a.."), only("a..", x=(2, 1))])
        self.assertIs(one == Leading(0, (2, 2), (2,), [only("a.."), only("a..", x=(2, 1))]), True)
        for other in (
            Leading(0, (2, 2), (2,), [only("a..", x=(2, 1)), only("a..")]), Leading(0, (2, 2), (2,), [only("a..")] * 2),
            Leading(0, (2,), (2,), [only("a..")]), Leading(3, (2, 2), (2,), [only("a..", 3), only("a..", 3, x=(2, 1))]),
            Leading(0, (2, 2), (2, 2), [only("a..", 0, (2, 2)), only("a..", 0, (2, 2), (2, 1))]),
        ):
            self.assertIs(one == other, False)
        nothing = [zero_sum(0, (2,), step, 3) for step in (1, 2)]
        self.assertIs(Leading(0, (3,), (2,), nothing[:1]) == Leading(0, (3,), (2,), nothing[1:]), False)


class Images(unittest.TestCase):
    def test_against_the_definition(self):
        numbers = support.Numbers(52)
        for leading in some_leadings():
            for size, width in forms(leading):
                one = random_sum(numbers, leading.p, leading.kinds, size, width)
                made = leading.image(one)
                self.assertEqual(support.as_dict(made), image_of(leading, one))
                self.assertEqual((made.p, made.kinds), (leading.p, leading.others))
                self.assertEqual((made.size, made.width), (size * leading.step(), width))

    def test_sums_and_grafted_sums(self):
        numbers = support.Numbers(53)
        for leading in some_leadings():
            p, kinds, held = leading.p, leading.kinds, leading.kinds[0]
            one, other = [random_sum(numbers, p, kinds, 1, held) for _ in range(2)]
            x = support.not_zero(numbers, p)
            self.assertEqual(leading.image(one + other.scaled(x)), leading.image(one) + leading.image(other).scaled(x))
            two = random_sum(numbers, p, kinds, 2, 2 * held - 1)
            for at in range(two.width):
                self.assertEqual(leading.image(two.grafted(at, one)), leading.image(two).grafted(at, leading.image(one)))

    def test_what_does_not_fit(self):
        leading = Leading(0, (2,), (2,), [only("a..")])
        for text in ("3 2 2 3 1 aa...", "0 22 2 3 1 aa...", "0 3 1 3 1 a...", "3 2 9 10"):
            self.assertRaises(BadNumber, leading.image, read_sum(text))

    def test_too_large(self):
        twice = Leading(0, (3,), (2,), [only("aa...")])
        self.assertEqual(leading_sizes(twice, 4), 8)
        for size in (5, 6, 9):
            self.assertRaises(TooLarge, twice.image, zero_sum(0, (3,), size, 3))
        self.assertRaises(TooLarge, twice.image, only("a" * 5 + "." * 11, 0, (3,)))
        # What does not fit comes first.
        self.assertRaises(BadNumber, twice.image, zero_sum(3, (3,), 9, 3))
        once = Leading(0, (2,), (2,), [only("a..", x=(2, 1))])
        word = "a" * 9 + "." * 10
        self.assertEqual(once.image(only(word)), only(word, x=(512, 1)))

    def test_examples(self):
        doubled = Leading(0, (2,), (2,), [only("a..", x=(2, 1))])
        self.assertEqual(doubled.step(), 1)
        self.assertEqual(doubled.image(only("aa...")), only("aa...", x=(4, 1)))
        leading = Leading(0, (3,), (2,), [only("aa...")])
        self.assertEqual(leading.step(), 2)
        self.assertEqual(leading.image(only("aa.....", 0, (3,))), only("aaaa....."))
        self.assertEqual(leading.image(only(".", 0, (3,))), only("."))
        self.assertEqual(leading.image(only("a..a...", 0, (3,))), only("aa..aa..."))

    def test_arguments_stay(self):
        for leading in some_leadings():
            one = random_sum(support.Numbers(54), leading.p, leading.kinds, 1, leading.kinds[0])
            before, images = text_of_sum(one), [text_of_sum(image) for image in leading.images()]
            leading.image(one)
            self.assertEqual(text_of_sum(one), before)
            self.assertEqual([text_of_sum(image) for image in leading.images()], images)


def leading_sizes(leading, size):
    return leading.image(zero_sum(leading.p, leading.kinds, size, 3)).size


class Behind(unittest.TestCase):
    def test_both_one_after_the_other(self):
        numbers = support.Numbers(55)
        pairs = 0
        every = list(some_leadings())
        for first in every:
            for second in every:
                if first.p != second.p or first.others != second.kinds or first.step() * second.step() > 2:
                    continue
                pairs += 1
                both = second.behind(first)
                self.assertEqual((both.p, both.kinds, both.others), (first.p, first.kinds, second.others))
                self.assertEqual(both.step(), first.step() * second.step())
                for size, width in forms(both):
                    if size < 4:
                        one = random_sum(numbers, first.p, first.kinds, size, width, 2)
                        self.assertEqual(both.image(one), second.image(first.image(one)))
        self.assertGreater(pairs, 30)

    def test_calm(self):
        numbers = support.Numbers(56)
        for leading in some_leadings():
            before, behind = calm(leading.p, leading.kinds), calm(leading.p, leading.others)
            self.assertIs(leading.behind(before) == leading, True)
            self.assertIs(behind.behind(leading) == leading, True)
        for p in (0, 2, 31):
            for kinds in support.ALL_KINDS:
                leading = calm(p, kinds)
                self.assertEqual((leading.p, leading.kinds, leading.others, leading.step()), (p, kinds, kinds, 1))
                for size, width in ((0, 1), (1, kinds[0]), (2, 4), (3, 4)):
                    one = random_sum(numbers, p, kinds, size, width)
                    self.assertEqual(leading.image(one), one)

    def test_what_does_not_fit(self):
        one = Leading(0, (2,), (2,), [only("a..")])
        twice = Leading(0, (3,), (2,), [only("aa...")])
        for other in (Leading(3, (2,), (2,), [only("a..", 3)]), calm(0, (3,)), calm(0, (2, 2)), calm(5, (2,))):
            self.assertRaises(BadNumber, one.behind, other)
        self.assertRaises(BadNumber, twice.behind, twice)
        self.assertRaises(BadNumber, twice.behind, one)
        self.assertEqual(one.behind(twice), twice)

    def test_steps_of_more_than_two(self):
        down = Leading(0, (2, 3), (2, 3), [zero_sum(0, (2, 3), 2, 2), only("aa...", 0, (2, 3))])
        once = calm(0, (2, 3))
        self.assertRaises(TooLarge, down.behind, down)
        self.assertIs(down.behind(once) == down, True)
        self.assertIs(once.behind(down) == down, True)
        # What does not fit comes first.
        self.assertRaises(BadNumber, down.behind, Leading(0, (3,), (2,), [only("aa...")]))
        three = Leading(3, (2, 3), (2, 3), [zero_sum(3, (2, 3), 2, 2), only("aa...", 3, (2, 3))])
        self.assertRaises(BadNumber, down.behind, three)


def right_cases():
    """Leadings that are right, with their books."""
    doubled = Leading(0, (2,), (2,), [only("a..", x=(2, 1))])
    yield doubled, read_book(EXAMPLE), read_book(EXAMPLE)
    yield doubled, read_book("0 2 ; 3 4 1 a.aa... -1 aaa...."), read_book(EXAMPLE)
    both = Leading(0, (2, 2), (2,), [only("a.."), only("a..", x=(-3, 1))])
    yield both, support.book_of("0 22 ; 2 3 -1 a.b.. 1 ab... ; 2 3 3 aa... 1 a.b.. ; 2 3 9 a.a.. -1 bb..."), read_book(EXAMPLE)
    opposite = "0 22 ; 2 3 1 a.a.. -1 aa... ; 2 3 -1 b.b.. 1 bb... ; 2 3 -2 a.b.. 1 ba..."
    swapped = Leading(0, (2, 2), (2, 2), [only("b..", 0, (2, 2)), only("a..", 0, (2, 2))])
    yield swapped, read_book("0 22 ; 2 3 -1 b.b.. 1 bb... ; 2 3 -1 a.a.. 1 aa... ; 2 3 -2 b.a.. 1 ab..."), support.book_of(opposite)
    ternary = Leading(0, (3,), (2,), [only("aa...")])
    yield ternary, read_book("0 3 ; 2 5 -1 a..a... 1 aa....."), read_book(EXAMPLE)
    yield ternary, Book(0, (3,), []), read_book("0 2")
    yield calm(7, (2, 3)), read_book("7 23 ; 2 4 3 ab...."), read_book("7 23 ; 2 4 2 ab.... ; 1 2 1 a..")


class Right(unittest.TestCase):
    def test_right_ones(self):
        numbers = support.Numbers(57)
        for leading, book, other in right_cases():
            self.assertIsNone(first_wrong(leading, book, other))
            self.assertIs(is_right(leading, book, other), True)
            held = book.kinds[0]
            for size, width in ((2, 2 * held - 1), (3, 3 * held - 2)):
                for placing in placings(book, size, width)[:15]:
                    self.assertTrue(is_lost(other, leading.image(placed(book, placing))))
                one = random_sum(numbers, book.p, book.kinds, size, width)
                self.assertTrue(are_alike(other, leading.image(one), leading.image(plain(book, one))))

    def test_first_wrong(self):
        other = read_book(EXAMPLE)
        leading = calm(0, (2,))
        good, bad = ["2 3 -1 a.a.. 1 aa...", "3 4 -1 aa..a.. 1 aaa...."], ["2 3 1 a.a.. 1 aa...", "1 2 1 a.."]
        for parts, due in (
            (good, None), (bad, 0), (good + bad, 2), (good[:1] + bad[1:] + good, 1), ([], None), (good + bad[1:] + bad, 2),
        ):
            book = read_book(" ; ".join(["0 2"] + parts))
            self.assertEqual(first_wrong(leading, book, other), due)
            self.assertIs(is_right(leading, book, other), due is None)

    def test_one_behind_another(self):
        first = Leading(0, (3,), (2,), [only("aa...")])
        second = Leading(0, (2,), (2,), [only("a..", x=(5, 1))])
        book, middle, last = read_book("0 3 ; 2 5 -1 a..a... 1 aa....."), read_book(EXAMPLE), read_book(EXAMPLE)
        self.assertTrue(is_right(first, book, middle) and is_right(second, middle, last))
        self.assertIs(is_right(second.behind(first), book, last), True)

    def test_what_does_not_fit(self):
        leading = Leading(0, (3,), (2,), [only("aa...")])
        book, other = read_book("0 3 ; 2 5 -1 a..a... 1 aa....."), read_book(EXAMPLE)
        for function in (first_wrong, is_right):
            for text in ("0 2", "3 3", "0 33", EXAMPLE):
                self.assertRaises(BadNumber, function, leading, read_book(text), other)
            for text in ("0 3", "3 2", "0 22", "0 23"):
                self.assertRaises(BadNumber, function, leading, book, read_book(text))
                self.assertRaises(BadNumber, function, leading, Book(0, (3,), []), read_book(text))

    def test_too_large(self):
        leading = Leading(0, (3,), (2,), [only("aa...")])
        other = read_book(EXAMPLE)
        large = "5 11 1 " + "a" * 5 + "." * 11
        wrong = "1 3 1 a..."
        for function in (first_wrong, is_right):
            # The image would have ten letters.
            self.assertRaises(TooLarge, function, leading, read_book("0 3 ; " + large), other)
            self.assertRaises(TooLarge, function, leading, read_book("0 3 ; 2 5 -1 a..a... 1 aa..... ; " + large), other)
            # 1430 trees of eight letters with nine dots.
            self.assertRaises(TooLarge, function, leading, read_book("0 3 ; 4 9 1 aaaa........."), other)
        # The relations behind the first wrong one are not looked at.
        self.assertEqual(first_wrong(leading, read_book("0 3 ; " + wrong + " ; " + large), other), 0)
        self.assertIs(is_right(leading, read_book("0 3 ; " + wrong + " ; " + large), other), False)


class Gone(unittest.TestCase):
    def cases(self):
        numbers = support.Numbers(58)
        others = [EXAMPLE, "0 2 ; 2 3 1 aa...", "2 2 ; 2 3 1 a.a.. 1 aa...", "7 22 ; 1 2 1 a.. 2 b..", "0 23 ; 2 4 1 ab.... 3 ba....", "0 2", "5 3 ; 2 5 1 aa....."]
        for text in others:
            other = read_book(text)
            for kinds, told, step in SHAPES:
                if told == other.kinds:
                    yield random_leading(numbers, other.p, kinds, told, step), other
        for leading, _, other in right_cases():
            yield leading, other

    def test_against_the_definition(self):
        some = 0
        for leading, other in self.cases():
            for size in range(4):
                for width in range(1, 8):
                    words = support.words_with(leading.kinds, size, width)
                    if not words or len(words) > 40 or size * leading.step() > (6 if len(leading.others) == 1 else 3):
                        continue
                    p = leading.p
                    images = [leading.image(only(word, p, leading.kinds)) for word in words]
                    columns = [support.as_dict(plain(other, image)) for image in images]
                    rows = [[column.get(tree, 0) for column in columns] for tree in {t: 1 for c in columns for t in c}]
                    self.assertEqual([support.as_dict(one) for one in gone(leading, other, size, width)],
                                     kernel_of(p, rows, words))
                    for one in gone(leading, other, size, width):
                        self.assertTrue(is_lost(other, leading.image(one)))
                        some += 1
        self.assertGreater(some, 60)

    def test_what_is_lost_is_gone(self):
        for leading, book, other in right_cases():
            held = book.kinds[0]
            for size, width in ((2, 2 * held - 1), (3, 3 * held - 2)):
                basis = gone(leading, other, size, width)
                words = support.words_with(leading.kinds, size, width)
                rows = [[support.as_dict(one).get(word, 0) for word in words] for one in basis]
                for placing in placings(book, size, width)[:10]:
                    told = support.as_dict(placed(book, placing))
                    more = rows + [[told.get(word, 0) for word in words]]
                    self.assertEqual(len(support.reduced(book.p, more)), len(basis))

    def test_what_is_gone_stays_gone(self):
        numbers = support.Numbers(59)
        some = 0
        for leading, other in self.cases():
            held = leading.kinds[0]
            found = gone(leading, other, 1, held)
            if len(leading.others) * leading.step() == 1:
                found.extend(gone(leading, other, 2, 2 * held - 1)[:4])
            elif len(leading.others) * leading.step() > 2:
                continue
            for one in found:
                more = random_sum(numbers, leading.p, leading.kinds, 1, held)
                for at in range(one.width):
                    self.assertTrue(is_lost(other, leading.image(one.grafted(at, more))))
                for at in range(more.width):
                    self.assertTrue(is_lost(other, leading.image(more.grafted(at, one))))
                some += 1
        self.assertGreater(some, 10)

    def test_examples(self):
        leading = Leading(0, (3,), (2,), [only("aa...")])
        found = gone(leading, read_book(EXAMPLE), 2, 5)
        self.assertEqual([text_of_sum(one) for one in found],
                         ["0 3 2 5 -1 a..a... 1 a.a....", "0 3 2 5 -1 a..a... 1 aa....."])
        doubled = Leading(0, (2,), (2,), [only("a..", x=(2, 1))])
        self.assertEqual(gone(doubled, read_book(EXAMPLE), 2, 3), [read_sum("0 2 2 3 -1 a.a.. 1 aa...")])
        self.assertEqual(gone(doubled, read_book("0 2"), 2, 3), [])
        self.assertEqual(gone(doubled, read_book("0 2 ; 1 2 1 a.."), 2, 3), [only("a.a.."), only("aa...")])

    def test_no_trees(self):
        leading = Leading(0, (3,), (2,), [only("aa...")])
        other = read_book(EXAMPLE)
        for size, width in ((0, 2), (1, 2), (1, 1), (2, 4), (9, 3), (5, 1), (9, 14), (0, 14)):
            self.assertEqual(gone(leading, other, size, width), [])
        self.assertEqual(gone(leading, other, 0, 1), [])
        # No trees of the images' size and width: all images are 0.
        nothing = Leading(0, (3,), (2,), [zero_sum(0, (2,), 1, 3)])
        self.assertEqual(gone(nothing, other, 1, 3), [only("a...", 0, (3,))])
        words = support.words_with((3,), 2, 5)
        self.assertEqual(gone(nothing, other, 2, 5), [only(word, 0, (3,)) for word in words])
        # Images that are 0, though there are such trees.
        zero = Leading(0, (2,), (2,), [zero_sum(0, (2,), 1, 2)])
        self.assertEqual(gone(zero, read_book("0 2"), 2, 3), [only("a.a.."), only("aa...")])
        self.assertEqual(gone(zero, read_book("0 2"), 0, 1), [])

    def test_what_is_wrong(self):
        leading = Leading(0, (3,), (2,), [only("aa...")])
        for text in ("0 3", "3 2", "0 22"):
            for size, width in ((2, 5), (10, 1), (6, 13)):
                self.assertRaises(BadNumber, gone, leading, read_book(text), size, width)
        other = read_book(EXAMPLE)
        for size, width in ((-1, 3), (10, 3), (10 ** 5000, 3), (2, 0), (2, -1), (2, 15), (2, 10 ** 5000), (9, 0)):
            self.assertRaises(BadNumber, gone, leading, other, size, width)

    def test_too_large(self):
        # 42 and 132 trees.
        once = Leading(0, (2,), (2,), [only("a..")])
        self.assertEqual(len(gone(once, read_book("0 2 ; 2 3 1 aa..."), 5, 6)), 41)
        self.assertRaises(TooLarge, gone, once, read_book("0 2"), 6, 7)
        # 55 trees, for which the image would have eight letters and nine dots, of which there are 1430 trees.
        twice = Leading(0, (3,), (2,), [only("aa...")])
        self.assertEqual(len(support.words_with((3,), 4, 9)), 55)
        self.assertRaises(TooLarge, gone, twice, read_book("0 2"), 4, 9)
        self.assertEqual(len(gone(twice, read_book("0 2 ; 2 3 1 aa..."), 3, 7)), 12)
        # 56 trees; no kinds have 57 to 75.
        mixed = calm(0, (2, 2, 3))
        self.assertEqual(gone(mixed, Book(0, (2, 2, 3), []), 3, 6), [])
        # An image of ten letters.
        mixed = Leading(0, (2, 3), (2,), [zero_sum(0, (2,), 2, 2), only("aa...")])
        self.assertEqual(len(support.words_with((2, 3), 5, 7)) > 60, True)
        self.assertRaises(TooLarge, gone, mixed, read_book("0 2"), 5, 6)
        # More than 400 placings.
        book = read_book("0 2 ; " + " ; ".join(["1 2 1 a.."] * 8))
        self.assertRaises(TooLarge, gone, once, book, 4, 5)
        self.assertEqual(len(gone(once, book, 3, 4)), 5)

    def test_lists_of_their_own(self):
        leading, other = Leading(0, (3,), (2,), [only("aa...")]), read_book(EXAMPLE)
        gone(leading, other, 2, 5).clear()
        self.assertEqual(len(gone(leading, other, 2, 5)), 2)
        self.assertEqual(text_of_book(other), EXAMPLE)


def kernel_of(p, rows, words):
    """The basis of [102] as dicts."""
    form = support.reduced(p, rows)
    leads = [next(at for at, w in enumerate(row) if w) for row in form]
    found = []
    for free in range(len(words)):
        if free not in leads:
            pairs = [(words[free], 1)] + [(words[lead], -row[free]) for lead, row in zip(leads, form)]
            found.append(support.collected(p, pairs))
    return found
