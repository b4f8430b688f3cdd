import unittest

from graftworth.errors import BadNumber, NotKinds, NotTree, TooLarge
from graftworth.grafting import context_of, graft, graft_all
from graftworth.patterns import avoids, hanging, places, put_for
import support
from support import SOME_KINDS, WRONG_KINDS, WRONG_TREES

LARGE = "a" * 9 + "." * 10


def cases():
    """Kinds, model trees and model patterns that go through many of them."""
    for kinds in SOME_KINDS:
        models = support.models_up_to(kinds, 4 if len(kinds) == 1 else 2)
        if len(kinds) > 1:
            models = models + support.models(kinds, 3)[::9]
        patterns = support.models_up_to(kinds, 2)[1:]
        for model in models:
            for pattern in patterns:
                yield kinds, model, pattern


class Places(unittest.TestCase):
    def test_against_models(self):
        for kinds, model, pattern in cases():
            due = [at for at, part in enumerate(support.parts(model)) if support.hung(pattern, part) is not None]
            self.assertEqual(places(kinds, support.text(model), support.text(pattern)), due)

    def test_example(self):
        self.assertEqual(places((2,), "aa..a..", "a.a.."), [0])
        self.assertEqual(places((2,), "aaa....", "a.a.."), [])

    def test_often_and_overlapping(self):
        self.assertEqual(places((2,), "aaaa.....", "aa..."), [0, 1, 2])
        self.assertEqual(places((2,), LARGE, "a.."), list(range(9)))
        self.assertEqual(places((2,), LARGE, "aa..."), list(range(8)))
        self.assertEqual(places((2, 2), "ab..b..", "b.."), [1, 2])
        self.assertEqual(places((2, 2), "ab..b..", "a.b.."), [0])
        self.assertEqual(places((2, 2), "ba..a..", "ab..."), [])
        self.assertEqual(places((2,), "aa..a..", "aa..a.."), [0])
        self.assertEqual(places((3, 2), "aa...a...b..", "a..b.."), [0])

    def test_in_the_open_entrance(self):
        self.assertEqual(places((2,), ".", "a.."), [])
        self.assertEqual(places((2,), "a..", "aa..."), [])

    def test_lists_of_their_own(self):
        places((2,), "a..", "a..").append(7)
        self.assertEqual(places((2,), "a..", "a.."), [0])


class Hanging(unittest.TestCase):
    def test_against_models(self):
        for kinds, model, pattern in cases():
            word, sign = support.text(model), support.text(pattern)
            for letter, part in enumerate(support.parts(model)):
                trees = support.hung(pattern, part)
                if trees is None:
                    self.assertRaises(BadNumber, hanging, kinds, word, sign, letter)
                else:
                    self.assertEqual(hanging(kinds, word, sign, letter), [support.text(tree) for tree in trees])

    def test_the_tree_is_made_again(self):
        for kinds, model, pattern in cases():
            word, sign = support.text(model), support.text(pattern)
            for letter in places(kinds, word, sign):
                context, at = context_of(kinds, word, letter)
                part = graft_all(kinds, sign, hanging(kinds, word, sign, letter))
                self.assertEqual(graft(kinds, context, at, part), word)

    def test_example(self):
        self.assertEqual(hanging((2,), "aa..a..", "a.a..", 0), ["a..", ".", "."])

    def test_letters_that_are_not_there(self):
        for letter in (-1, -3, 3, 4, 100, 10 ** 5000, -10 ** 5000):
            self.assertRaises(BadNumber, hanging, (2,), "aa..a..", "a..", letter)
            self.assertRaises(BadNumber, put_for, (2,), "aa..a..", "a..", letter, "a..")
        self.assertRaises(BadNumber, hanging, (2,), ".", "a..", 0)
        self.assertRaises(BadNumber, put_for, (2,), ".", "a..", 0, "a..")

    def test_lists_of_their_own(self):
        hanging((2,), "a..", "a..", 0).clear()
        self.assertEqual(hanging((2,), "a..", "a..", 0), [".", "."])


class PutFor(unittest.TestCase):
    def test_against_models(self):
        for kinds, model, pattern in cases():
            word, sign = support.text(model), support.text(pattern)
            wide = support.dots(pattern)
            others = [other for other in support.models_up_to(kinds, 2) if support.dots(other) == wide][:6]
            for letter, part in enumerate(support.parts(model)):
                trees = support.hung(pattern, part)
                for other in others:
                    arguments = kinds, word, sign, letter, support.text(other)
                    if trees is None:
                        self.assertRaises(BadNumber, put_for, *arguments)
                    else:
                        due = support.put_at(model, letter, support.filled(other, list(trees)))
                        self.assertEqual(put_for(*arguments), support.text(due))

    def test_example(self):
        self.assertEqual(put_for((2,), "aa..a..", "a.a..", 0, "aa..."), "aaa....")

    def test_the_pattern_itself_changes_nothing(self):
        for kinds, model, pattern in cases():
            word, sign = support.text(model), support.text(pattern)
            for letter in places(kinds, word, sign):
                self.assertEqual(put_for(kinds, word, sign, letter, sign), word)

    def test_other_widths(self):
        for other in (".", "aa...", "aaa....", "b..."):
            self.assertRaises(BadNumber, put_for, (2, 3), "aa...", "a..", 0, other)
        for other in (".", "a..", "aaa....", "aaaa....."):
            self.assertRaises(BadNumber, put_for, (2, 3), "aa...", "aa...", 0, other)
        # The sizes need not be equal.
        self.assertEqual(put_for((2, 3), "aa...", "aa...", 0, "b..."), "b...")
        self.assertEqual(put_for((2, 3), "ab....", "b...", 1, "a.a.."), "aa.a...")

    def test_too_large(self):
        kinds = (2, 3)
        eight = "b" + "a" * 7 + "." * 10
        nine = "b" + "a" * 8 + "." * 11
        self.assertEqual(put_for(kinds, eight, "b...", 0, "aa..."), "a" * 9 + "." * 10)
        self.assertRaises(TooLarge, put_for, kinds, nine, "b...", 0, "aa...")
        self.assertRaises(TooLarge, put_for, kinds, nine, "b...", 0, "a.a..")
        self.assertEqual(put_for(kinds, nine, "b...", 0, "b..."), nine)
        many = "bbbbbba" + "." * 14
        self.assertEqual(put_for(kinds, many, "b...", 5, "aa..."), "bbbbbaaa" + "." * 14)
        self.assertEqual(put_for(kinds, many, "bb.....", 4, "aaaa....."), "bbbbaaaaa" + "." * 14)
        self.assertRaises(TooLarge, put_for, kinds, many, "bbb.......", 3, "aaaaaa.......")


class Avoids(unittest.TestCase):
    def test_against_models(self):
        for kinds, model, pattern in cases():
            word, sign = support.text(model), support.text(pattern)
            stands = any(support.hung(pattern, part) is not None for part in support.parts(model))
            self.assertIs(avoids(kinds, word, [sign]), not stands)

    def test_no_patterns(self):
        for word in (".", "a..", LARGE):
            self.assertIs(avoids((2,), word, []), True)

    def test_several(self):
        self.assertIs(avoids((2,), "aaa....", ["a.a..", "a.a.a.."]), True)
        self.assertIs(avoids((2,), "aaa....", ["a.a..", "aa..."]), False)
        self.assertIs(avoids((2,), "aaa....", ["aa...", "a.a.."]), False)
        self.assertIs(avoids((2, 2), "ab...", ["aa...", "bb...", "ba..."]), True)
        self.assertIs(avoids((2, 2), "ab...", ["aa...", "bb...", "ab..."]), False)
        self.assertIs(avoids((2,), "a..", ["a.."] * 40), False)
        self.assertIs(avoids((2,), ".", ["a.."]), True)

    def test_large_patterns(self):
        self.assertIs(avoids((2,), LARGE, [LARGE]), False)
        self.assertIs(avoids((2,), "a..", [LARGE]), True)

    def test_the_list_stays(self):
        patterns = ["aa...", "a.."]
        avoids((2,), "aa...", patterns)
        self.assertEqual(patterns, ["aa...", "a.."])


class OrderOfErrors(unittest.TestCase):
    def calls(self, kinds, tree, pattern, letter=0, other="a.."):
        return [
            (places, (kinds, tree, pattern)), (hanging, (kinds, tree, pattern, letter)),
            (put_for, (kinds, tree, pattern, letter, other)), (avoids, (kinds, tree, [pattern])),
        ]

    def test_kinds_first(self):
        for kinds in WRONG_KINDS:
            for tree, pattern in (("a..", "a.."), ("..", "."), ("a..", "..")):
                for function, arguments in self.calls(kinds, tree, pattern, -1, ".."):
                    self.assertRaises(NotKinds, function, *arguments)
            self.assertRaises(NotKinds, avoids, kinds, "a..", [])

    def test_then_trees(self):
        for word in WRONG_TREES:
            for letter in (0, -1):
                for function, arguments in self.calls((2,), word, ".", letter):
                    self.assertRaises(NotTree, function, *arguments)
                for function, arguments in self.calls((2,), "a..", word, letter):
                    self.assertRaises(NotTree, function, *arguments)
                for pattern in ("a..", ".", "aa..."):
                    self.assertRaises(NotTree, put_for, (2,), "a..", pattern, letter, word)
            self.assertRaises(NotTree, avoids, (2,), word, [])
            self.assertRaises(NotTree, avoids, (2,), "a..", ["a..", word])
            self.assertRaises(NotTree, avoids, (2,), "a..", [".", word])

    def test_the_open_entrance_alone_is_no_pattern(self):
        for tree in (".", "a..", LARGE):
            for function, arguments in self.calls((2,), tree, "."):
                self.assertRaises(BadNumber, function, *arguments)
            self.assertRaises(BadNumber, avoids, (2,), tree, ["a..", "."])
            self.assertRaises(BadNumber, put_for, (2,), tree, ".", 0, ".")

    def test_numbers_ahead_of_sizes(self):
        kinds = (2, 3)
        nine = "b" + "a" * 8 + "." * 11
        self.assertRaises(BadNumber, put_for, kinds, nine, "b...", 1, "aa...")
        self.assertRaises(BadNumber, put_for, kinds, nine, "b...", 9, "aa...")
        self.assertRaises(BadNumber, put_for, kinds, nine, "b...", 0, "aaa....")
        self.assertRaises(BadNumber, put_for, kinds, nine, ".", 0, "aa...")
