import re
import unittest

from graftworth.errors import BadNumber, Malformed, NoAnswer, NotKinds, NotNumber, NotTree, TooLarge
from graftworth.numbers import number_text
from graftworth.sums import Sum, read_sum, text_of_sum, zero_sum
import support
from support import FIELDS, SOME_KINDS, WRONG_FIELDS, WRONG_KINDS, WRONG_TREES

FORMS = [(0, 1), (1, 2), (2, 3), (3, 4), (1, 3), (2, 5), (2, 4), (3, 5)]
NO_INDEXES = [-1, -2, -100, 100, 10 ** 5000, -10 ** 5000]
WRONG_NUMBERS = {0: [(2, 2), (1, 0), (1, -1), (0, 2), (4, 6)], 7: [(7, 1), (-1, 1), (1, 2), (0, 0), (8, 1)]}


def cases(count=3, fields=FIELDS, most=6):
    """Sums of many forms, with the pairs of which they are made."""
    numbers = support.Numbers(11)
    for p in fields:
        for kinds in SOME_KINDS:
            for size, width in FORMS:
                if support.words_with(kinds, size, width):
                    for _ in range(count):
                        terms = support.random_terms(numbers, p, kinds, size, width, most)
                        yield Sum(p, kinds, size, width, terms), terms


def form(one):
    return one.p, one.kinds, one.size, one.width


def some(p=0, kinds=(2,), words=("aa...", "a.a.."), size=2, width=3):
    return Sum(p, kinds, size, width, [(word, (1, 1)) for word in words])


class Terms(unittest.TestCase):
    def test_in_order_however_they_are_handed_in(self):
        for one, terms in cases():
            words = support.words_with(one.kinds, one.size, one.width)
            due = sorted(terms, key=lambda term: words.index(term[0]))
            self.assertEqual(one.terms(), due)
            self.assertEqual(Sum(*form(one), terms[::-1]), one)
            self.assertEqual(Sum(*form(one), due).terms(), due)
            self.assertEqual(len(one), len(terms))
            self.assertIs(bool(one), True)

    def test_fields(self):
        one = Sum(5, (2, 3), 2, 4, [])
        self.assertEqual(form(one), (5, (2, 3), 2, 4))

    def test_numbers_of_one_tree_are_added(self):
        numbers = support.Numbers(5)
        for p in FIELDS:
            words = support.words_with((2, 2), 2, 3)
            for _ in range(20):
                terms = [(words[numbers.below(4)], support.some_number(numbers, p)) for _ in range(numbers.below(9))]
                due = support.collected(p, [(word, support.worth(p, x)) for word, x in terms])
                self.assertEqual(support.as_dict(Sum(p, (2, 2), 2, 3, terms)), due)

    def test_what_is_0_is_no_term(self):
        self.assertEqual(Sum(0, (2,), 2, 3, [("aa...", (0, 1))]).terms(), [])
        self.assertEqual(Sum(0, (2,), 2, 3, [("aa...", (1, 2)), ("aa...", (-1, 2))]).terms(), [])
        self.assertEqual(Sum(3, (2,), 2, 3, [("aa...", (1, 1))] * 3), zero_sum(3, (2,), 2, 3))
        made = Sum(3, (2,), 2, 3, [("aa...", (1, 1)), ("a.a..", (2, 1)), ("aa...", (1, 1)), ("aa...", (1, 1))])
        self.assertEqual(made.terms(), [("a.a..", (2, 1))])
        self.assertEqual(Sum(2, (2,), 2, 3, [("aa...", (1, 1))] * 5).terms(), [("aa...", (1, 1))])

    def test_large_numbers(self):
        large = 10 ** 5000
        made = Sum(0, (2,), 1, 2, [("a..", (large, 1)), ("a..", (1, 1))])
        self.assertEqual(made.terms(), [("a..", (large + 1, 1))])

    def test_at(self):
        for one, terms in cases(1):
            for word in support.words_with(*form(one)[1:]):
                self.assertEqual(one.at(word), dict(terms).get(word, (0, 1)))
        one = some()
        for word in WRONG_TREES:
            self.assertRaises(NotTree, one.at, word)
        for word in (".", "a..", "aaa....", "aa..a..", "aaaa....."):
            self.assertRaises(BadNumber, one.at, word)
        self.assertRaises(NotTree, one.at, "ab...")
        self.assertRaises(BadNumber, some(kinds=(2, 3)).at, "b...")
        self.assertRaises(BadNumber, some(kinds=(2, 3)).at, "ab....")

    def test_head(self):
        for one, _ in cases():
            self.assertEqual(one.head(), one.terms()[-1])
        self.assertEqual(some().head(), ("aa...", (1, 1)))
        self.assertEqual(some(words=["a.b..", "b.a.."], kinds=(2, 2)).head(), ("b.a..", (1, 1)))
        self.assertRaises(NoAnswer, zero_sum(0, (2,), 2, 3).head)
        self.assertRaises(NoAnswer, (some() - some()).head)

    def test_zero_sum(self):
        for p in FIELDS:
            for kinds in SOME_KINDS:
                for size, width in [(0, 1), (9, 14), (0, 14), (9, 1), (3, 4)]:
                    zero = zero_sum(p, kinds, size, width)
                    self.assertEqual(form(zero), (p, kinds, size, width))
                    self.assertEqual(zero.terms(), [])
                    self.assertEqual(len(zero), 0)
                    self.assertIs(bool(zero), False)
                    self.assertEqual(zero, Sum(p, kinds, size, width, []))

    def test_equal(self):
        one = some()
        self.assertIs(one == some(), True)
        self.assertIs(one == some(words=["a.a..", "aa..."]), True)
        others = [
            some(p=2), some(kinds=(2, 2)), some(words=["aa..."]), some(words=["aa...", "aa...", "a.a.."]),
            zero_sum(0, (2,), 2, 3), -one, some(words=[]),
        ]
        for other in others:
            self.assertIs(one == other, False)
            self.assertIs(other == one, False)
        zeros = [zero_sum(*told) for told in [(0, (2,), 2, 3), (2, (2,), 2, 3), (0, (3,), 2, 3), (0, (2,), 1, 3),
                                              (0, (2,), 2, 4), (0, (2, 2), 2, 3)]]
        for at, zero in enumerate(zeros):
            self.assertEqual([zero == other for other in zeros], [at == index for index in range(len(zeros))])

    def test_lists_of_their_own(self):
        terms = [("aa...", (1, 1)), ("aa...", (2, 1)), ("a.a..", (0, 1))]
        one = Sum(0, (2,), 2, 3, terms)
        self.assertEqual(terms, [("aa...", (1, 1)), ("aa...", (2, 1)), ("a.a..", (0, 1))])
        terms.clear()
        one.terms().clear()
        self.assertEqual(one.terms(), [("aa...", (3, 1))])

    def test_example(self):
        one = Sum(0, (2,), 2, 3, [("aa...", (1, 1)), ("a.a..", (-1, 1))])
        self.assertEqual(text_of_sum(one), "0 2 2 3 -1 a.a.. 1 aa...")
        self.assertEqual(one.head(), ("aa...", (1, 1)))


class WrongSums(unittest.TestCase):
    def test_one_thing_wrong(self):
        for p in WRONG_FIELDS:
            self.assertRaises(BadNumber, Sum, p, (2,), 2, 3, [("aa...", (1, 1))])
            self.assertRaises(BadNumber, zero_sum, p, (2,), 2, 3)
        for kinds in WRONG_KINDS:
            self.assertRaises(NotKinds, Sum, 0, kinds, 2, 3, [("aa...", (1, 1))])
            self.assertRaises(NotKinds, zero_sum, 0, kinds, 2, 3)
        for size in (-1, 10, 100, 10 ** 5000):
            self.assertRaises(BadNumber, Sum, 0, (2,), size, 3, [])
            self.assertRaises(BadNumber, zero_sum, 0, (2,), size, 3)
        for width in (0, -1, 15, 10 ** 5000):
            self.assertRaises(BadNumber, Sum, 0, (2,), 2, width, [])
            self.assertRaises(BadNumber, zero_sum, 0, (2,), 2, width)
        for word in WRONG_TREES:
            self.assertRaises(NotTree, Sum, 0, (2,), 2, 3, [("aa...", (1, 1)), (word, (1, 1))])
        for word in (".", "a..", "aaa...."):
            self.assertRaises(BadNumber, Sum, 0, (2,), 2, 3, [(word, (1, 1))])
        self.assertRaises(BadNumber, Sum, 0, (2, 3), 2, 3, [("ab....", (1, 1))])
        self.assertRaises(BadNumber, Sum, 0, (2, 3), 2, 3, [("b...", (1, 1))])
        for p, wrong in WRONG_NUMBERS.items():
            for x in wrong:
                self.assertRaises(NotNumber, Sum, p, (2,), 2, 3, [("aa...", (1, 1)), ("a.a..", x)])

    def test_which_error_comes_first(self):
        wrong = [("..", (2, 2)), ("a..", (2, 2)), ("aa...", (2, 2))]
        self.assertRaises(BadNumber, Sum, 1, (), 10, 0, wrong)
        self.assertRaises(NotKinds, Sum, 0, (), 10, 0, wrong)
        self.assertRaises(BadNumber, Sum, 0, (2,), 10, 3, wrong)
        self.assertRaises(BadNumber, Sum, 0, (2,), 2, 0, wrong)
        self.assertRaises(NotTree, Sum, 0, (2,), 2, 3, wrong)
        self.assertRaises(BadNumber, Sum, 0, (2,), 2, 3, wrong[1:])
        self.assertRaises(NotNumber, Sum, 0, (2,), 2, 3, wrong[2:])
        self.assertRaises(NotNumber, Sum, 0, (2,), 2, 3, wrong[::-1])
        self.assertRaises(BadNumber, Sum, 0, (2,), 2, 3, [wrong[1], wrong[0]])
        self.assertRaises(BadNumber, Sum, 0, (2,), 2, 3, [("aa...", (1, 1)), wrong[1], wrong[2], wrong[0]])


class Reckoning(unittest.TestCase):
    def pairs(self):
        numbers = support.Numbers(3)
        for one, _ in cases(2):
            for _ in range(2):
                terms = support.random_terms(numbers, *form(one), 6)
                yield one, Sum(*form(one), terms)

    def check(self, made, one, pairs):
        self.assertEqual(form(made), form(one))
        self.assertEqual(support.as_dict(made), support.collected(one.p, pairs))

    def test_against_dicts(self):
        numbers = support.Numbers(8)
        for one, other in self.pairs():
            before = one.terms(), other.terms()
            first, second = list(support.as_dict(one).items()), list(support.as_dict(other).items())
            self.check(one + other, one, first + second)
            self.check(one - other, one, first + [(tree, -w) for tree, w in second])
            self.check(-one, one, [(tree, -w) for tree, w in first])
            x = support.some_number(numbers, one.p)
            self.check(one.scaled(x), one, [(tree, w * support.worth(one.p, x)) for tree, w in first])
            self.assertEqual((one.terms(), other.terms()), before)

    def test_laws(self):
        for one, other in self.pairs():
            zero = zero_sum(*form(one))
            self.assertEqual(one + other, other + one)
            self.assertEqual(one + zero, one)
            self.assertEqual(zero - one, -one)
            self.assertEqual(one - one, zero)
            self.assertEqual((one - other) + other, one)
            self.assertEqual(one.scaled((0, 1)), zero)
            self.assertEqual(one.scaled((1, 1)), one)
            self.assertEqual(-(-one), one)

    def test_what_comes_to_0(self):
        one = some(p=2)
        self.assertEqual(one + one, zero_sum(2, (2,), 2, 3))
        self.assertEqual(one + some(p=2, words=["aa..."]), some(p=2, words=["a.a.."]))
        self.assertIs(bool(one - one), False)

    def test_forms_that_differ(self):
        one = some()
        others = [
            some(p=2), some(kinds=(2, 2)), zero_sum(0, (2,), 2, 4), zero_sum(0, (2,), 3, 3), zero_sum(7, (2,), 2, 3),
            zero_sum(0, (3,), 2, 3), zero_sum(0, (2,), 3, 4),
        ]
        for other in others:
            for first, second in ((one, other), (other, one)):
                with self.assertRaises(BadNumber):
                    first + second
                with self.assertRaises(BadNumber):
                    first - second

    def test_numbers_that_are_none(self):
        for p, wrong in WRONG_NUMBERS.items():
            for x in wrong:
                self.assertRaises(NotNumber, some(p=p).scaled, x)
                self.assertRaises(NotNumber, zero_sum(p, (2,), 2, 3).scaled, x)


class Grafted(unittest.TestCase):
    def pairs(self):
        sums = [one for one, _ in cases(1, (0, 2, 7), 4)]
        for one in sums:
            for other in sums:
                if one.p == other.p and one.kinds == other.kinds and one.size + other.size <= 4:
                    yield one, other

    def test_against_trees(self):
        for one, other in self.pairs():
            before = one.terms(), other.terms()
            for at in range(one.width):
                made = one.grafted(at, other)
                due = [
                    (support.grafted(one.kinds, tree, at, part), w * v)
                    for tree, w in support.as_dict(one).items() for part, v in support.as_dict(other).items()
                ]
                self.assertEqual(support.as_dict(made), support.collected(one.p, due))
                self.assertEqual(form(made), form(one)[:2] + (one.size + other.size, one.width + other.width - 1))
                self.assertEqual(len(made), len(one) * len(other))
                tree, part = one.head()[0], other.head()[0]
                self.assertEqual(made.head()[0], support.grafted(one.kinds, tree, at, part))
                w = support.worth(one.p, one.head()[1]) * support.worth(one.p, other.head()[1])
                self.assertEqual(made.head()[1], support.pair(one.p, w))
            self.assertEqual((one.terms(), other.terms()), before)

    def test_goes_along_with_adding(self):
        numbers = support.Numbers(2)
        for one, other in self.pairs():
            more = Sum(*form(one), support.random_terms(numbers, *form(one), 4))
            x = support.some_number(numbers, one.p)
            at = numbers.below(one.width)
            self.assertEqual((one + more).grafted(at, other), one.grafted(at, other) + more.grafted(at, other))
            self.assertEqual(one.scaled(x).grafted(at, other), one.grafted(at, other).scaled(x))
            self.assertEqual(one.grafted(at, other.scaled(x)), one.grafted(at, other).scaled(x))
            self.assertEqual(one.grafted(at, other - other), zero_sum(*form(one.grafted(at, other))))

    def test_sizes_and_widths(self):
        four, five = zero_sum(0, (2, 3), 4, 7), zero_sum(0, (2, 3), 5, 8)
        self.assertEqual(form(four.grafted(0, five)), (0, (2, 3), 9, 14))
        self.assertEqual(form(five.grafted(7, four)), (0, (2, 3), 9, 14))
        self.assertRaises(TooLarge, five.grafted, 0, zero_sum(0, (2, 3), 5, 1))
        self.assertRaises(TooLarge, five.grafted, 0, zero_sum(0, (2, 3), 0, 8))
        large = some(words=["a" * 9 + "." * 10], size=9, width=10)
        self.assertEqual(large.grafted(3, some(words=["."], size=0, width=1)), large)
        self.assertRaises(TooLarge, large.grafted, 3, some(words=["a.."], size=1, width=2))
        wide = some(kinds=(2, 3), words=["bbbbbba" + "." * 14], size=7, width=14)
        self.assertEqual(wide.grafted(13, some(kinds=(2, 3), words=["."], size=0, width=1)), wide)
        self.assertRaises(TooLarge, wide.grafted, 13, some(kinds=(2, 3), words=["a.."], size=1, width=2))

    def test_dots_and_forms(self):
        one = some()
        for at in NO_INDEXES + [3, -3]:
            self.assertRaises(BadNumber, one.grafted, at, one)
        for at in (0, 3):
            for other in (some(p=2), some(kinds=(2, 2)), zero_sum(0, (3,), 1, 3)):
                self.assertRaises(BadNumber, one.grafted, at, other)
        large = zero_sum(0, (2,), 9, 10)
        self.assertRaises(BadNumber, large.grafted, 10, large)
        self.assertRaises(BadNumber, large.grafted, 0, zero_sum(2, (2,), 9, 10))
        self.assertRaises(TooLarge, large.grafted, 9, large)


class UnderAndWith(unittest.TestCase):
    def test_under(self):
        for one, _ in cases(1, (0, 5)):
            for word in [support.text(model) for model in support.models_up_to(one.kinds, 1)] + ["aa" + "." * 5]:
                if not support.stands_for_tree(one.kinds, word):
                    continue
                for at in range(word.count(".")):
                    made = one.under(word, at)
                    due = {support.grafted(one.kinds, word, at, tree): w for tree, w in support.as_dict(one).items()}
                    self.assertEqual(support.as_dict(made), due)
                    self.assertEqual(len(made), len(one))
                    self.assertEqual(made.head(), (support.grafted(one.kinds, word, at, one.head()[0]), one.head()[1]))
            self.assertEqual(one.under(".", 0), one)

    def test_under_wrong_trees(self):
        one = some()
        for word in WRONG_TREES:
            self.assertRaises(NotTree, one.under, word, 0)
            self.assertRaises(NotTree, one.under, word, -1)
        for at in NO_INDEXES + [2]:
            self.assertRaises(BadNumber, one.under, "a..", at)
        for zero in (one, one - one):
            self.assertEqual(form(zero.under("a" * 7 + "." * 8, 7)), (0, (2,), 9, 10))
            self.assertRaises(TooLarge, zero.under, "a" * 8 + "." * 9, 8)
            self.assertRaises(BadNumber, zero.under, "a" * 8 + "." * 9, 9)
        wide = zero_sum(0, (3, 2), 3, 6)
        self.assertEqual(wide.under("aaaa" + "." * 9, 0).width, 14)
        self.assertRaises(TooLarge, wide.under, "aaaab" + "." * 10, 0)

    def test_with_all(self):
        numbers = support.Numbers(6)
        for one, _ in cases(1, (0, 5)):
            small = [support.text(model) for model in support.models_up_to(one.kinds, 1)]
            for _ in range(3):
                trees = [small[numbers.below(len(small))] for _ in range(one.width)]
                copy = list(trees)
                if sum(tree.count(".") for tree in trees) > 14 or one.size + len("".join(trees).replace(".", "")) > 9:
                    self.assertRaises(TooLarge, one.with_all, trees)
                    continue
                made = one.with_all(trees)
                due = {support.grafted_all(one.kinds, tree, trees): w for tree, w in support.as_dict(one).items()}
                self.assertEqual(support.as_dict(made), due)
                self.assertEqual(len(made), len(one))
                self.assertEqual(made.head()[1], one.head()[1])
                self.assertEqual(made.head()[0], support.grafted_all(one.kinds, one.head()[0], trees))
                self.assertEqual(trees, copy)
            self.assertEqual(one.with_all(["."] * one.width), one)

    def test_with_wrong_trees(self):
        one = some()
        for word in WRONG_TREES:
            for trees in ([word], [word, ".", "."], [".", ".", word], ["."] * 5 + [word]):
                self.assertRaises(NotTree, one.with_all, trees)
        for many in (0, 1, 2, 4, 30):
            self.assertRaises(BadNumber, one.with_all, ["a" * 9 + "." * 10] * many)
        for zero in (one, one - one):
            self.assertEqual(form(zero.with_all(["a" * 7 + "." * 8, ".", "."])), (0, (2,), 9, 10))
            self.assertRaises(TooLarge, zero.with_all, ["a" * 7 + "." * 8, "a..", "."])
        wide = zero_sum(0, (3, 2), 1, 3)
        self.assertEqual(wide.with_all(["aa.....", "aa.....", "bbb...."]).width, 14)
        self.assertRaises(TooLarge, wide.with_all, ["aa.....", "aa.....", "aab......"])

    def test_mirrored(self):
        for one, _ in cases(2):
            made = one.mirrored()
            due = {
                support.text(support.turned(support.model_of(one.kinds, tree))): w
                for tree, w in support.as_dict(one).items()
            }
            self.assertEqual(support.as_dict(made), due)
            self.assertEqual(form(made), form(one))
            self.assertEqual(made.mirrored(), one)

    def test_going_along_with_adding(self):
        numbers = support.Numbers(12)
        for one, _ in cases(1, (0, 3)):
            more = Sum(*form(one), support.random_terms(numbers, *form(one), 4))
            x = support.some_number(numbers, one.p)
            trees = ["a" + "." * one.kinds[0]] + ["."] * (one.width - 1)
            for change in (lambda told: told.under(trees[0], 1), lambda told: told.with_all(trees), Sum.mirrored):
                self.assertEqual(change(one + more), change(one) + change(more))
                self.assertEqual(change(one.scaled(x)), change(one).scaled(x))


def first_wrong_word(text):
    """The number of the first wrong word, or None, for the texts of the test below."""
    words = text.split(" ")

    def fine(at):
        word = words[at]
        if at == 0:
            return word in [str(p) for p in FIELDS]
        if at == 1:
            return word in ["2", "3"] + [x + y for x in "23" for y in "23"] + [
                x + y + z for x in "23" for y in "23" for z in "23"]
        if at == 2:
            return word in [str(size) for size in range(10)]
        if at == 3:
            return word in [str(width) for width in range(1, 15)]
        p, kinds = int(words[0]), tuple(int(figure) for figure in words[1])
        if at % 2 == 0:
            if p == 0:
                return word in ["1/2", "-1/2", "2/3", "-7/4"] or re.fullmatch("-?[1-9][0-9]{0,59}", word) is not None
            return word in [str(w) for w in range(1, p)]
        if not support.stands_for_tree(kinds, word) or word.count(".") != int(words[3]):
            return False
        model = support.model_of(kinds, word)
        if support.letters(model) != int(words[2]):
            return False
        return at == 5 or support.compared(support.model_of(kinds, words[at - 2]), model) == -1

    for at in range(max(len(words), 4)):
        if at >= len(words) or not fine(at):
            return at
    return None if len(words) % 2 == 0 else len(words)


class Texts(unittest.TestCase):
    def test_each_others_inverse(self):
        for one, _ in cases(2):
            text = text_of_sum(one)
            self.assertEqual(read_sum(text), one)
            self.assertEqual(text_of_sum(read_sum(text)), text)
            due = [str(one.p), "".join(str(held) for held in one.kinds), str(one.size), str(one.width)]
            for tree, x in one.terms():
                due.extend([number_text(one.p, x), tree])
            self.assertEqual(text, " ".join(due))

    def test_sums_without_terms(self):
        for p in FIELDS:
            self.assertEqual(text_of_sum(zero_sum(p, (2, 3, 2), 9, 14)), f"{p} 232 9 14")
            for size, width in ((0, 1), (9, 14), (8, 13), (0, 14), (9, 1)):
                self.assertEqual(read_sum(f"{p} 232 {size} {width}"), zero_sum(p, (2, 3, 2), size, width))

    def test_words_changed_left_out_and_put_in(self):
        texts = [
            "0 2 2 3 -1 a.a.. 1 aa...", "7 23 2 4 3 a.b... 6 ab....", "0 2 0 1 1/2 .", "7 2 3 4", "0 22 1 2 -7/4 a.. 1 b..",
        ]
        others = [
            "", "0", "1", "2", "3", "6", "7", "-1", "+1", "01", "-0", "00", "1/1", "2/4", "1/0", "1/-2", "1/2", "10", "14",
            "15", "22", "4", "2222", "21", "a..", "aa...", "a.a..", "b..", ".", "..", "b...", "a", "x", ";", "1.0", "\t", "1\n",
            "\u0663", "9" * 61, "1" * 5000, "0" * 5000 + "2",
        ]
        seen = set()
        for text in texts:
            words = text.split(" ")
            self.assertIsNone(first_wrong_word(text))
            for at in range(len(words) + 1):
                changed = [words[:at] + [other] + words[at:] for other in others] + [words[:at], words[:at] + words[at + 1:]]
                changed.extend(words[:at] + [other] + words[at + 1:] for other in others if at < len(words))
                for row in changed:
                    due = first_wrong_word(" ".join(row))
                    seen.add(due)
                    if due is None:
                        self.assertEqual(text_of_sum(read_sum(" ".join(row))), " ".join(row))
                        continue
                    with self.assertRaises(Malformed, msg=row) as caught:
                        read_sum(" ".join(row))
                    self.assertEqual(caught.exception.at, due, row)
        self.assertEqual(seen, {None} | set(range(10)))

    def check(self, text, at):
        with self.assertRaises(Malformed) as caught:
            read_sum(text)
        self.assertEqual(caught.exception.at, at, text)

    def test_by_hand(self):
        self.check("", 0)
        self.check(" ", 0)
        self.check("0", 1)
        self.check("0 2", 2)
        self.check("0 2 2", 3)
        self.check("0 2 2 3 ", 4)
        self.check(" 0 2 2 3", 0)
        self.check("0  2 2 3", 1)
        self.check("0 2 2 3 1", 5)
        self.check("0 2 2 3 1 ", 5)
        self.check("0 2 2 3 0 aa...", 4)
        self.check("0 2 2 3 1 aa... ", 6)
        self.check("0 2 2 3 1 aa... 1", 7)
        self.check("0 2 2 3 1 aa... 1 aa...", 7)
        self.check("0 2 2 3 1 aa... 1 a.a..", 7)
        self.check("0 2 2 3 1 a..", 5)
        self.check("0 22 2 3 1 a.a.. 1 ba... 1 aa...", 9)
        self.check("0 22 2 3 1 a.a.. 1 ba... 1 ba...", 9)
        self.check("7 2 2 3 7 aa...", 4)
        self.check("7 2 2 3 1/2 aa...", 4)
        self.check("7 2 2 3 -1 aa...", 4)
        self.check("0 2 02 3", 2)
        self.check("0 2 +2 3", 2)
        self.check("0 2 2 -3", 3)
        self.check("0 2 10 3", 2)
        self.check("0 2 2 0", 3)
        self.check("0 2 2 15", 3)
        self.check("0 2 0 5 1 .", 5)
        self.check("4 2 2 3", 0)
        self.check("0 5 2 3", 1)
        self.check("0 2 2 3\n", 3)
        self.check("0 2 2 3 1 aa...\n", 5)

    def test_many_figures(self):
        sixty = "1" * 60
        one = read_sum(f"0 2 2 3 {sixty}/{'1' * 59} aa...")
        self.assertEqual(one.at("aa..."), (int(sixty), int("1" * 59)))
        self.check(f"0 2 2 3 {sixty}1 aa...", 4)
        self.check(f"0 2 2 3 1/{sixty}1 aa...", 4)
