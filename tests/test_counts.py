import functools
import unittest

from graftworth.counts import avoiding, avoiding_by_width, avoiding_number, by_width, crown, depth
from graftworth.errors import BadNumber, NotKinds, NotTree, TooLarge
from graftworth.grafting import mirrored
from graftworth.patterns import avoids
from graftworth.series import put_into
from graftworth.trees import counted, listed
import support
from support import ALL_KINDS, SOME_KINDS, WRONG_KINDS, WRONG_TREES

NINE = "a" * 9 + "." * 10
JUST_60 = [
    ((2, 2), ["bb..a..", "a.a..", "a.ba...", "b.a..", "abb....", "aaaa....."], 4),
    ((2, 3), ["aa.b....", "bab......", "bb.....", "aba.....", "a.aa...", "aaaa....."], 3),
]
JUST_61 = [
    ((2, 2), ["a.a.a..", "bba....", "aa...", "a.b..", "a.b.a..", "ab..a..", "aaaa....."], 4),
    ((2, 3), ["bb....b...", "ab..a...", "bb....a..", "a.b...", "b..a.b...", "ba.a....", "aaaa....."], 3),
]


def deep(model):
    return 0 if model is None else 1 + max(deep(part) for part in model[1])


def cut(model, most):
    """The crown of a depth."""
    if model is None or most == 0:
        return None
    return (model[0], tuple(cut(part, most - 1) for part in model[1]))


def is_free(model, patterns):
    return not any(support.hung(pattern, part) is not None for pattern in patterns for part in support.parts(model))


def pattern_lists(kinds, numbers, count):
    """No patterns, each small one alone, and several."""
    models = support.models_up_to(kinds, 2)[1:] + support.models(kinds, 3)[::7 if len(kinds) > 1 else 1]
    texts = [support.text(model) for model in models]
    yield []
    for text in texts[::max(1, len(texts) // 8)]:
        yield [text]
    for _ in range(count):
        yield [texts[numbers.below(len(texts))] for _ in range(numbers.between(2, 5))]


def has_few_crowns(kinds, patterns, size):
    try:
        avoiding_number(kinds, patterns, size, 1)
    except TooLarge:
        return False
    return True


@functools.lru_cache(maxsize=None)
def number_of_rows(kinds, many, width):
    """The numbers of rows of trees of any size that have so many open entrances together."""
    if many == 0:
        return 1 if width == 0 else 0
    return sum(number_of_trees(kinds, wide) * number_of_rows(kinds, many - 1, width - wide)
               for wide in range(1, width - many + 2))


@functools.lru_cache(maxsize=None)
def number_of_trees(kinds, width):
    return (1 if width == 1 else 0) + sum(number_of_rows(kinds, held, width) for held in kinds)


class ByWidth(unittest.TestCase):
    def test_against_the_definition(self):
        for kinds in ALL_KINDS:
            due = [number_of_trees(kinds, width) for width in range(1, 13)]
            for most in range(1, 13):
                self.assertEqual(by_width(kinds, most), due[:most])

    def test_sizes_added(self):
        for kinds in ALL_KINDS:
            due = [sum(counted(kinds, size, width) for size in range(10)) for width in range(1, 11)]
            self.assertEqual(by_width(kinds, 10), due)

    def test_the_series_put_in(self):
        for kinds in ALL_KINDS:
            told = [1] + [0] * 11
            for held in kinds:
                told[held - 1] -= 1
            self.assertEqual(put_into(by_width(kinds, 12), told), [1] + [0] * 11)

    def test_by_hand(self):
        self.assertEqual(by_width((2, 2), 4), [1, 2, 8, 40])
        self.assertEqual(by_width((2,), 12), [1, 1, 2, 5, 14, 42, 132, 429, 1430, 4862, 16796, 58786])
        self.assertEqual(by_width((3,), 9), [1, 0, 1, 0, 3, 0, 12, 0, 55])
        self.assertEqual(by_width((3,), 1), [1])
        self.assertEqual(by_width((3,), 2), [1, 0])
        self.assertEqual(by_width((2, 3), 4), [1, 1, 3, 10])

    def test_errors(self):
        for kinds in WRONG_KINDS:
            for most in (3, 0, 13):
                self.assertRaises(NotKinds, by_width, kinds, most)
        for most in (0, -1, 13, 14, 10 ** 5000):
            self.assertRaises(BadNumber, by_width, (2,), most)


class Crowns(unittest.TestCase):
    def test_depth(self):
        for kinds in SOME_KINDS:
            for model in support.models_up_to(kinds, 3):
                self.assertEqual(depth(kinds, support.text(model)), deep(model))
        self.assertEqual(depth((2,), "aa..a.."), 2)
        self.assertEqual(depth((2,), "."), 0)
        self.assertEqual(depth((2,), NINE), 9)

    def test_crowns(self):
        for kinds in SOME_KINDS:
            for model in support.models_up_to(kinds, 4 if kinds == (2,) else 3):
                word = support.text(model)
                for most in range(5):
                    made = crown(kinds, word, most)
                    self.assertEqual(made, support.text(cut(model, most)))
                    for less in range(most + 2):
                        self.assertEqual(crown(kinds, made, less), crown(kinds, word, min(less, most)))
                for most in range(deep(model), 10):
                    self.assertEqual(crown(kinds, word, most), word)

    def test_by_hand(self):
        self.assertEqual(crown((2,), "aa..a..", 1), "a..")
        self.assertEqual(crown((2,), "aa..a..", 0), ".")
        self.assertEqual(crown((2,), "aa..a..", 2), "aa..a..")
        self.assertEqual(crown((2, 3), "aba....b...", 2), "ab...b...")
        self.assertEqual(crown((2, 3), "ab.a...b...", 2), "ab...b...")
        self.assertEqual(crown((2,), NINE, 9), NINE)
        self.assertEqual(crown((2,), NINE, 8), "a" * 8 + "." * 9)

    def test_patterns_stand_in_crowns(self):
        for kinds in ((2,), (3, 2)):
            patterns = support.models_up_to(kinds, 2)[1:]
            for model in support.models_up_to(kinds, 3):
                for pattern in patterns:
                    stands = model is not None and support.hung(pattern, model) is not None
                    for most in range(deep(pattern), 4):
                        crowned = support.model_of(kinds, crown(kinds, support.text(model), most))
                        self.assertIs(crowned is not None and support.hung(pattern, crowned) is not None, stands)

    def test_errors(self):
        for kinds in WRONG_KINDS:
            self.assertRaises(NotKinds, depth, kinds, "..")
            self.assertRaises(NotKinds, crown, kinds, "..", -1)
        for word in WRONG_TREES:
            self.assertRaises(NotTree, depth, (2,), word)
            for most in (0, -1, 10):
                self.assertRaises(NotTree, crown, (2,), word, most)
        for most in (-1, 10, 11, 10 ** 5000):
            for word in (".", "a..", NINE):
                self.assertRaises(BadNumber, crown, (2,), word, most)


class Avoiding(unittest.TestCase):
    def test_against_models(self):
        numbers = support.Numbers(83)
        for kinds in SOME_KINDS:
            most = {(2,): 5, (3,): 4, (2, 2): 3, (3, 2): 3, (2, 3, 2): 2}[kinds]
            for patterns in pattern_lists(kinds, numbers, 6):
                told = [support.model_of(kinds, pattern) for pattern in patterns]
                for size in range(most + 1):
                    for width in range(1, 2 * size + 3):
                        words = support.words_with(kinds, size, width)
                        due = [word for word in words if is_free(support.model_of(kinds, word), told)]
                        self.assertEqual(avoiding(kinds, patterns, size, width), due)
                        self.assertEqual(avoiding_number(kinds, patterns, size, width), len(due))

    def test_large_lists(self):
        numbers = support.Numbers(89)
        for kinds, size, width in (((2,), 6, 7), ((3,), 5, 11), ((2, 2), 4, 5), ((3, 2), 4, 8), ((2,), 9, 10)):
            for patterns in pattern_lists(kinds, numbers, 4):
                if counted(kinds, size, width) > 300:
                    self.assertRaises(TooLarge, avoiding, kinds, patterns, size, width)
                else:
                    due = [word for word in listed(kinds, size, width) if avoids(kinds, word, patterns)]
                    self.assertEqual(avoiding(kinds, patterns, size, width), due)
                    self.assertEqual(avoiding_number(kinds, patterns, size, width), len(due))

    def test_no_patterns(self):
        for kinds in ALL_KINDS:
            for size in range(10):
                for width in range(1, 15):
                    self.assertEqual(avoiding_number(kinds, [], size, width), counted(kinds, size, width))
            self.assertEqual(avoiding_by_width(kinds, [], 10), by_width(kinds, 10))
        self.assertEqual(avoiding((2,), [], 3, 4), listed((2,), 3, 4))

    def test_by_widths(self):
        numbers = support.Numbers(97)
        for kinds in SOME_KINDS:
            for patterns in pattern_lists(kinds, numbers, 4):
                for most in (1, 2, 4, 6):
                    if not has_few_crowns(kinds, patterns, most - 1):
                        self.assertRaises(TooLarge, avoiding_by_width, kinds, patterns, most)
                        continue
                    due = [
                        sum(avoiding_number(kinds, patterns, size, width) for size in range(most))
                        for width in range(1, most + 1)
                    ]
                    self.assertEqual(avoiding_by_width(kinds, patterns, most), due)

    def test_one_operation(self):
        for pattern in ("aa...", "a.a.."):
            self.assertEqual(avoiding_by_width((2,), [pattern], 10), [1] * 10)
            for size in range(10):
                self.assertEqual(avoiding_number((2,), [pattern], size, size + 1), 1)
        self.assertEqual(avoiding((2,), ["aa..."], 4, 5), ["a.a.a.a.."])
        self.assertEqual(avoiding((2,), ["a.a.."], 4, 5), ["aaaa....."])

    def test_all_trees_of_two_letters(self):
        for kinds in ALL_KINDS:
            patterns = [support.text(model) for model in support.models(kinds, 2)]
            if len(patterns) <= 30:
                due = [1] + [kinds.count(width) for width in range(2, 11)]
                self.assertEqual(avoiding_by_width(kinds, patterns, 10), due)
                self.assertEqual(avoiding(kinds, patterns, 1, 2), [word for word in listed(kinds, 1, 2)])
                self.assertEqual(avoiding_number(kinds, patterns, 2, 3), 0)

    def test_example(self):
        self.assertEqual(avoiding_by_width((2,), ["aa.a..a.."], 5), [1, 1, 2, 5, 13])
        self.assertEqual(len(avoiding((2,), ["aa.a..a.."], 4, 5)), 13)
        self.assertEqual(avoiding_number((2,), ["aa.a..a.."], 4, 5), 13)

    def test_patterns_of_four_letters(self):
        for model in support.models((2,), 4):
            pattern = support.text(model)
            for size in range(7):
                due = [word for word in listed((2,), size, size + 1) if avoids((2,), word, [pattern])]
                self.assertEqual(avoiding_number((2,), [pattern], size, size + 1), len(due))

    def test_one_letter_as_a_pattern(self):
        self.assertEqual(avoiding_by_width((2, 2), ["a.."], 5), [1, 1, 2, 5, 14])
        self.assertEqual(avoiding_by_width((2, 2), ["a..", "b.."], 5), [1, 0, 0, 0, 0])
        self.assertEqual(avoiding((2,), ["a.."], 0, 1), ["."])
        self.assertEqual(avoiding((2,), ["a.."], 1, 2), [])

    def test_patterns_that_stand_in_one_another(self):
        for kinds, patterns, less in (((2,), ["aa...", "aaa....", "a.aa..."], ["aa..."]),
                                      ((2, 2), ["ab...", "bab....", "ab..a.."], ["ab..."]),
                                      ((3,), ["a...", "aa....."], ["a..."]), ((2,), ["aa.a..."] * 3, ["aa.a..."])):
            self.assertEqual(avoiding_by_width(kinds, patterns, 6), avoiding_by_width(kinds, less, 6))
            for size in range(4):
                for width in range(1, 8):
                    self.assertEqual(avoiding(kinds, patterns, size, width), avoiding(kinds, less, size, width))

    def test_with_more_patterns_no_more_trees(self):
        numbers = support.Numbers(101)
        for kinds in ((2,), (3, 2)):
            for patterns in pattern_lists(kinds, numbers, 5):
                fewer = avoiding_by_width(kinds, patterns[:-1], 5)
                self.assertTrue(all(x <= y for x, y in zip(avoiding_by_width(kinds, patterns, 5), fewer)))

    def test_mirrored(self):
        numbers = support.Numbers(103)
        for kinds in SOME_KINDS:
            for patterns in pattern_lists(kinds, numbers, 3):
                turned = [mirrored(kinds, pattern) for pattern in patterns]
                if has_few_crowns(kinds, patterns, 4):
                    self.assertEqual(avoiding_by_width(kinds, turned, 5), avoiding_by_width(kinds, patterns, 5))
                else:
                    self.assertRaises(TooLarge, avoiding_by_width, kinds, turned, 5)
                due = sorted(mirrored(kinds, word) for word in avoiding(kinds, patterns, 3, 4))
                self.assertEqual(sorted(avoiding(kinds, turned, 3, 4)), due)

    def test_arguments_stay(self):
        patterns = ["aa...", "a.a.a.."]
        avoiding((2,), patterns, 2, 3).clear()
        self.assertEqual(avoiding((2,), patterns, 2, 3), ["a.a.."])
        avoiding_number((2,), patterns, 3, 4)
        avoiding_by_width((2,), patterns, 3).clear()
        self.assertEqual(avoiding_by_width((2,), patterns, 4), [1, 1, 1, 0])
        self.assertEqual(patterns, ["aa...", "a.a.a.."])


class ManyCrowns(unittest.TestCase):
    def met(self, kinds, patterns, size):
        told = [support.model_of(kinds, pattern) for pattern in patterns]
        most = max([1] + [deep(model) for model in told]) - 1
        free = [model for model in support.models_up_to(kinds, size) if is_free(model, told)]
        return len({cut(model, most) for model in free})

    def test_60_and_61(self):
        for cases, many in ((JUST_60, 60), (JUST_61, 61)):
            for kinds, patterns, size in cases:
                self.assertEqual(self.met(kinds, patterns, size), many)
                told = [support.model_of(kinds, pattern) for pattern in patterns]
                due = sum(is_free(support.model_of(kinds, word), told) for word in support.words_with(kinds, size, size + 1))
                if many == 60:
                    self.assertEqual(avoiding_number(kinds, patterns, size, size + 1), due)
                    self.assertEqual(len(avoiding_by_width(kinds, patterns, size + 1)), size + 1)
                else:
                    for width in range(1, 15):
                        self.assertRaises(TooLarge, avoiding_number, kinds, patterns, size, width)
                    self.assertRaises(TooLarge, avoiding_by_width, kinds, patterns, size + 1)
                    self.assertEqual(len(avoiding_by_width(kinds, patterns, size)), size)
                self.assertEqual(len(avoiding(kinds, patterns, size, size + 1)), due)

    def test_crowns_against_models(self):
        numbers = support.Numbers(107)
        seen = {True: 0, False: 0}
        for kinds, size, most in (((2, 2), 3, 4), ((2, 2), 4, 4), ((3, 3), 3, 3), ((2, 3), 3, 4)):
            texts = [support.text(model) for model in support.models_up_to(kinds, 3)[1:]]
            chain = "a" * most + "." * (most * (kinds[0] - 1) + 1)
            for _ in range(12):
                patterns = [texts[numbers.below(len(texts))] for _ in range(numbers.below(5))] + [chain]
                large = self.met(kinds, patterns, size) > 60
                seen[large] += 1
                if large:
                    self.assertRaises(TooLarge, avoiding_number, kinds, patterns, size, size + 1)
                    self.assertRaises(TooLarge, avoiding_by_width, kinds, patterns, size + 1)
                else:
                    due = len(avoiding(kinds, patterns, size, size + 1))
                    self.assertEqual(avoiding_number(kinds, patterns, size, size + 1), due)
        self.assertGreater(min(seen.values()), 2)

    def test_small_crowns_of_large_trees(self):
        # 55 crowns of a depth of 2, however large the trees are.
        self.assertEqual(avoiding_by_width((3, 3), ["aaa......."], 10)[:3], [1, 0, 2])
        self.assertEqual(avoiding_number((3, 3), ["aaa......."], 2, 5), 12)
        self.assertEqual(avoiding_by_width((2,), ["aaaa....."], 10), [1, 1, 2, 5, 13, 36, 104, 309, 939, 2905])


class Errors(unittest.TestCase):
    def calls(self, kinds, patterns, size, width):
        return [(avoiding, (kinds, patterns, size, width)), (avoiding_number, (kinds, patterns, size, width)),
                (avoiding_by_width, (kinds, patterns, width))]

    def test_kinds_first(self):
        for kinds in WRONG_KINDS:
            for patterns in ([], [".."], ["."], ["a.."] * 31):
                for function, arguments in self.calls(kinds, patterns, -1, 0):
                    self.assertRaises(NotKinds, function, *arguments)

    def test_then_trees(self):
        for word in WRONG_TREES:
            for patterns in ([word], ["a..", word], [".", word], ["a.."] * 31 + [word], [NINE, word]):
                for function, arguments in self.calls((2,), patterns, -1, 0):
                    self.assertRaises(NotTree, function, *arguments)

    def test_then_patterns(self):
        for patterns in (["."], ["a..", "."], ["aaaaa......"], [NINE], ["a.."] * 31, ["aa..."] * 31, ["a.."] * 100):
            for size, width in ((2, 3), (9, 10), (9, 14)):
                for function, arguments in self.calls((2,), patterns, size, width):
                    self.assertRaises(BadNumber, function, *arguments)
        self.assertEqual(avoiding((2,), ["aa..."] * 30, 3, 4), ["a.a.a.."])
        self.assertEqual(avoiding_number((2,), ["aa..."] * 30, 3, 4), 1)
        self.assertEqual(avoiding_by_width((2,), ["aa..."] * 30, 4), [1, 1, 1, 1])
        self.assertEqual(avoiding_number((2,), ["aaaa....."], 4, 5), 13)

    def test_then_sizes_and_widths(self):
        for patterns in ([], ["aa..."]) + tuple(case[1] for case in JUST_61[:1]):
            kinds = (2, 2)
            for size, width in ((-1, 3), (10, 3), (3, 0), (3, 15), (3, -1), (10 ** 5000, 3), (3, 10 ** 5000)):
                self.assertRaises(BadNumber, avoiding, kinds, patterns, size, width)
                self.assertRaises(BadNumber, avoiding_number, kinds, patterns, size, width)
            for most in (0, -1, 11, 12, 10 ** 5000):
                self.assertRaises(BadNumber, avoiding_by_width, kinds, patterns, most)

    def test_ends_of_the_ranges(self):
        for kinds in ALL_KINDS:
            self.assertEqual(avoiding_number(kinds, ["a" + "." * kinds[0]], 0, 1), 1)
            self.assertEqual(avoiding_number(kinds, ["a" + "." * kinds[0]], 9, 14),
                             counted(kinds[1:], 9, 14) if len(kinds) > 1 else 0)
            self.assertEqual(avoiding_by_width(kinds, ["a" + "." * kinds[0]], 1), [1])
            self.assertEqual(len(avoiding_by_width(kinds, ["a" + "." * kinds[0]], 10)), 10)
        self.assertEqual(avoiding((2,), ["aa..."], 0, 1), ["."])
        self.assertEqual(avoiding((2, 2), ["a.."], 9, 14), [])

    def test_then_too_large(self):
        # As many trees as can be listed or more, however many of them avoid the patterns.
        self.assertRaises(TooLarge, avoiding, (2,), ["a.."], 7, 8)
        self.assertEqual(len(avoiding((3,), ["aa....."], 5, 11)), sum("aa" not in word for word in listed((3,), 5, 11)))
        self.assertRaises(TooLarge, avoiding, (2, 2), [], 5, 6)
