import functools
import unittest

from graftworth.errors import BadNumber, NotKinds, NotTree, TooLarge
from graftworth.trees import (
    check_kinds, check_tree, counted, index_of, is_before, is_kinds, is_tree, listed, paths, size, tree_at, width,
)
import support
from support import ALL_KINDS, SOME_KINDS, WRONG_KINDS, WRONG_TREES


@functools.lru_cache(maxsize=None)
def numbers_of_rows(kinds, many, size, width):
    """The number of rows of trees with sizes and widths that make these together."""
    if many == 0:
        return 1 if size == 0 and width == 0 else 0
    return sum(
        number_of_trees(kinds, first, wide) * numbers_of_rows(kinds, many - 1, size - first, width - wide)
        for first in range(size + 1) for wide in range(1, width + 1)
    )


@functools.lru_cache(maxsize=None)
def number_of_trees(kinds, size, width):
    if size == 0:
        return 1 if width == 1 else 0
    return sum(numbers_of_rows(kinds, held, size - 1, width) for held in kinds)


def models_with(kinds, size, width):
    """All model trees of a size and a width, in order."""
    found = [model for model in support.models(kinds, size) if support.dots(model) == width]
    return sorted(found, key=functools.cmp_to_key(support.compared))


def small_lists(kinds, most):
    for many in range(most + 1):
        for wide in range(1, 15):
            if 0 < number_of_trees(kinds, many, wide) <= 300:
                yield many, wide


class Kinds(unittest.TestCase):
    def test_those_that_are(self):
        for kinds in ALL_KINDS:
            self.assertIs(is_kinds(kinds), True)
            self.assertIsNone(check_kinds(kinds))

    def test_those_that_are_none(self):
        for kinds in WRONG_KINDS + [(10 ** 5000,), (2, 10 ** 30), (2,) * 50]:
            self.assertIs(is_kinds(kinds), False)
            self.assertRaises(NotKinds, check_kinds, kinds)


class WhatTreesAre(unittest.TestCase):
    def test_all_short_texts(self):
        for kinds in ALL_KINDS:
            words = [""]
            for _ in range(5):
                words = [word + sign for word in words for sign in ".abc"]
                for word in words:
                    self.assertIs(is_tree(kinds, word), support.stands_for_tree(kinds, word), (kinds, word))

    def test_trees_with_a_character_changed(self):
        for kinds in SOME_KINDS:
            for model in support.models_up_to(kinds, 3 if len(kinds) < 3 else 2):
                word = support.text(model)
                self.assertIs(is_tree(kinds, word), True, (kinds, word))
                self.assertIsNone(check_tree(kinds, word))
                for other in support.changed(word, ".abcdA ("):
                    due = support.stands_for_tree(kinds, other)
                    self.assertIs(is_tree(kinds, other), due, (kinds, other))
                    if not due:
                        self.assertRaises(NotTree, check_tree, kinds, other)

    def test_letters_of_the_kinds(self):
        self.assertIs(is_tree((2,), "b.."), False)
        self.assertIs(is_tree((2, 3), "b..."), True)
        self.assertIs(is_tree((2, 3), "b.."), False)
        self.assertIs(is_tree((2, 3), "c.."), False)
        self.assertIs(is_tree((2, 3, 2), "c.."), True)
        self.assertIs(is_tree((2, 3, 2), "d.."), False)
        self.assertIs(is_tree((2, 2), "ab.."), False)

    def test_wrong_texts(self):
        for word in WRONG_TREES + ["." * 14, "." * 1000, "a" * 1000, "a." * 500 + ".", "abc", "a..a..", "\u0430.."]:
            self.assertIs(is_tree((2,), word), False, word[:40])
            self.assertRaises(NotTree, check_tree, (2,), word)

    def check_both(self, kinds, word, due):
        self.assertEqual(support.parsed(kinds, word)[0], True, word)
        self.assertIs(is_tree(kinds, word), due, word)
        if due:
            self.assertIsNone(check_tree(kinds, word))
        else:
            self.assertRaises(NotTree, check_tree, kinds, word)

    def test_nine_letters_and_ten(self):
        for kinds in ((2,), (2, 3)):
            self.check_both(kinds, "a" * 9 + "." * 10, True)
            self.check_both(kinds, "a." * 9 + ".", True)
            self.check_both(kinds, "a" * 10 + "." * 11, False)
            self.check_both(kinds, "a." * 10 + ".", False)
        self.check_both((2, 3), "aaaaabbbb" + "." * 14, True)
        self.check_both((2, 3), "aaaaaaabbb" + "." * 14, False)

    def test_fourteen_dots_and_fifteen(self):
        self.check_both((2, 3), "bbbbbba" + "." * 14, True)
        self.check_both((2, 3), "bbbbb.....ba" + "." * 9, True)
        self.check_both((2, 3), "bbbbb.....baa" + "." * 10, False)
        self.check_both((2, 3), "aaaabbbbb" + "." * 15, False)
        self.check_both((2, 3), "bbbbbbb" + "." * 15, False)
        self.check_both((3,), "aaaaaa" + "." * 13, True)
        self.check_both((3,), "aaaaaaa" + "." * 15, False)
        self.check_both((3,), "a.." * 7 + ".", False)

    def test_kinds_are_looked_at_first(self):
        for kinds in WRONG_KINDS:
            for word in (".", "a..", "", "xyz"):
                for function in (is_tree, check_tree, size, width, paths, index_of):
                    self.assertRaises(NotKinds, function, kinds, word)
                self.assertRaises(NotKinds, is_before, kinds, word, "..")
            for wide in (3, 0):
                self.assertRaises(NotKinds, counted, kinds, 2, wide)
                self.assertRaises(NotKinds, listed, kinds, 2, wide)
                self.assertRaises(NotKinds, tree_at, kinds, 2, wide, -1)


class Measures(unittest.TestCase):
    def test_size_width_and_paths(self):
        for kinds in ALL_KINDS:
            for model in support.models_up_to(kinds, 3 if len(kinds) < 3 else 2):
                word = support.text(model)
                self.assertEqual(size(kinds, word), support.letters(model))
                self.assertEqual(width(kinds, word), support.dots(model))
                self.assertEqual(paths(kinds, word), support.ways(model))

    def test_the_open_entrance_alone(self):
        self.assertEqual((size((2,), "."), width((2,), "."), paths((2,), ".")), (0, 1, [""]))

    def test_large_trees(self):
        self.assertEqual(size((2,), "a" * 9 + "." * 10), 9)
        self.assertEqual(width((2,), "a" * 9 + "." * 10), 10)
        self.assertEqual(width((2, 3), "bbbbbba" + "." * 14), 14)
        self.assertEqual(paths((2,), "a." * 9 + "."), ["a" * k for k in range(1, 10)] + ["a" * 9])

    def test_example(self):
        self.assertEqual(size((2, 2), "ab..."), 2)
        self.assertEqual(width((2, 2), "ab..."), 3)
        self.assertEqual(paths((2, 2), "ab..."), ["ab", "ab", "a"])

    def test_no_trees(self):
        for function in (size, width, paths, index_of):
            for word in WRONG_TREES:
                self.assertRaises(NotTree, function, (2,), word)

    def test_paths_are_a_list_of_their_own(self):
        first = paths((2,), "a..")
        first.append("changed")
        self.assertEqual(paths((2,), "a.."), ["a", "a"])


class Order(unittest.TestCase):
    def test_all_pairs(self):
        for kinds, many in (((2,), 5), ((3,), 3), ((2, 2), 3), ((3, 2), 3), ((2, 3, 2), 2)):
            for wide in range(1, 2 * many + 2):
                models = models_with(kinds, many, wide)
                for one in models:
                    for other in models:
                        due = support.compared(one, other) < 0
                        self.assertIs(is_before(kinds, support.text(one), support.text(other)), due)

    def test_by_length_and_by_letter(self):
        self.assertIs(is_before((2,), "a.a..", "aa..."), True)
        self.assertIs(is_before((2,), "aa...", "a.a.."), False)
        self.assertIs(is_before((2, 2), "bb...", "aa..."), False)
        self.assertIs(is_before((2, 2), "b.b..", "aa..."), True)
        self.assertIs(is_before((2, 2), "ab...", "ba..."), True)
        self.assertIs(is_before((2, 2), "a.b..", "b.a.."), True)

    def test_a_longer_path_is_greater_whatever_its_letters(self):
        self.assertIs(is_before((2, 2), "b.b..", "aa..."), True)
        self.assertIs(is_before((2, 2), "bb..b..", "aaa...."), True)

    def test_equal_trees(self):
        for word in (".", "a..", "ab...", "a.b.."):
            self.assertIs(is_before((2, 2), word, word), False)

    def test_other_sizes_or_widths(self):
        self.assertRaises(BadNumber, is_before, (2,), ".", "a..")
        self.assertRaises(BadNumber, is_before, (2,), "aa...", "a..")
        # One width and two sizes, and one size and two widths.
        self.assertRaises(BadNumber, is_before, (2, 3), "aa...", "b...")
        self.assertRaises(BadNumber, is_before, (2, 3), "b...", "aa...")
        self.assertRaises(BadNumber, is_before, (2, 3), "a..", "b...")
        self.assertRaises(BadNumber, is_before, (2, 3), "b...", "a..")

    def test_trees_are_looked_at_first(self):
        for word in WRONG_TREES:
            self.assertRaises(NotTree, is_before, (2,), word, "a..")
            self.assertRaises(NotTree, is_before, (2,), "aa...", word)
            self.assertRaises(NotTree, is_before, (2,), word, word)


class Lists(unittest.TestCase):
    def test_counted(self):
        for kinds in ALL_KINDS:
            for many in range(10):
                for wide in range(1, 15):
                    due = number_of_trees(kinds, many, wide)
                    self.assertEqual(counted(kinds, many, wide), due, (kinds, many, wide))

    def test_listed_is_whole_and_ascending(self):
        for kinds in ALL_KINDS:
            for many, wide in small_lists(kinds, 4):
                due = [support.text(model) for model in models_with(kinds, many, wide)]
                self.assertEqual(listed(kinds, many, wide), due)

    def test_longer_lists(self):
        for kinds, many, wide in (((2,), 6, 7), ((3,), 5, 11), ((2, 3), 5, 11), ((3, 2, 2), 5, 11)):
            due = [support.text(model) for model in models_with(kinds, many, wide)]
            self.assertEqual(listed(kinds, many, wide), due)

    def test_those_without_a_tree(self):
        for kinds in ALL_KINDS:
            for many in range(10):
                for wide in range(1, 15):
                    if number_of_trees(kinds, many, wide) == 0:
                        self.assertEqual(listed(kinds, many, wide), [])
                        self.assertRaises(BadNumber, tree_at, kinds, many, wide, 0)

    def test_example(self):
        due = ["a.a..", "a.b..", "b.a..", "b.b..", "aa...", "ab...", "ba...", "bb..."]
        self.assertEqual(listed((2, 2), 2, 3), due)
        self.assertEqual(counted((2, 2), 2, 3), 8)

    def test_indexes(self):
        for kinds in SOME_KINDS:
            for many, wide in small_lists(kinds, 3):
                for index, word in enumerate(listed(kinds, many, wide)):
                    self.assertEqual(index_of(kinds, word), index)
                    self.assertEqual(tree_at(kinds, many, wide, index), word)

    def test_indexes_that_are_not_there(self):
        for kinds in SOME_KINDS:
            for many, wide in small_lists(kinds, 3):
                number = counted(kinds, many, wide)
                for index in (-1, -number, number, number + 1, 10 ** 5000, -10 ** 30):
                    self.assertRaises(BadNumber, tree_at, kinds, many, wide, index)

    def test_too_many(self):
        # No kinds have just 300 trees of a size and a width: the numbers next to it are 273 and 324.
        for kinds, many, wide, word in (
            ((3, 3, 3), 3, 7, "aaa......."), ((2,), 7, 8, "a.a.a.a.a.a.a.."), ((2,), 9, 10, "a" * 9 + "." * 10),
            ((2, 2, 2), 9, 10, "c" * 9 + "." * 10), ((2, 3), 5, 7, "baaaa......."),
        ):
            self.assertGreater(counted(kinds, many, wide), 300)
            self.assertRaises(TooLarge, listed, kinds, many, wide)
            self.assertRaises(TooLarge, index_of, kinds, word)
            for index in (0, 299, -1, 10 ** 9):
                self.assertRaises(TooLarge, tree_at, kinds, many, wide, index)

    def test_the_bound_of_lists(self):
        numbers = [counted(kinds, many, wide) for kinds in ALL_KINDS for many in range(10) for wide in range(1, 15)]
        self.assertEqual(max(number for number in numbers if number <= 300), 273)
        self.assertEqual(min(number for number in numbers if number >= 300), 324)
        self.assertEqual(len(listed((3,), 5, 11)), 273)
        self.assertEqual(index_of((3,), "a" * 5 + "." * 11), 272)
        self.assertEqual(tree_at((3,), 5, 11, 272), "a" * 5 + "." * 11)

    def test_sizes_and_widths_out_of_range(self):
        for many, wide in ((-1, 1), (10, 11), (10, 1), (0, 0), (9, 15), (1, -2), (9, 0), (-1, 15), (10 ** 5000, 3),
                           (2, 10 ** 5000), (-5, -5)):
            for kinds in ((2,), (2, 2, 2), (2, 3)):
                self.assertRaises(BadNumber, counted, kinds, many, wide)
                self.assertRaises(BadNumber, listed, kinds, many, wide)
                self.assertRaises(BadNumber, tree_at, kinds, many, wide, 0)
        # The ends of both ranges are allowed.
        self.assertEqual(counted((2,), 0, 1), 1)
        self.assertEqual(counted((2,), 0, 14), 0)
        self.assertEqual(counted((2,), 9, 1), 0)
        self.assertGreater(counted((2, 3), 9, 14), 0)

    def test_lists_of_their_own(self):
        first = listed((2,), 2, 3)
        first.append("changed")
        self.assertEqual(listed((2,), 2, 3), ["a.a..", "aa..."])
        listed((2,), 0, 1).clear()
        self.assertEqual(listed((2,), 0, 1), ["."])
