import unittest

from graftworth.errors import BadNumber, NoAnswer, NotKinds, NotTree, TooLarge
from graftworth.grafting import context_of, graft, graft_all, mirrored, part_at, top
from graftworth.trees import is_before, is_tree, listed, size, width
import support
from support import ALL_KINDS, SOME_KINDS, WRONG_KINDS, WRONG_TREES

NO_INDEXES = [-1, -2, -100, 100, 10 ** 5000, -10 ** 5000]


def words(kinds, most):
    return [support.text(model) for model in support.models_up_to(kinds, most)]


class Grafting(unittest.TestCase):
    def test_against_models(self):
        for kinds in SOME_KINDS:
            for model in support.models_up_to(kinds, 3 if len(kinds) == 1 else 2):
                for other in support.models_up_to(kinds, 1) + support.models(kinds, 2)[:5]:
                    for at in range(support.dots(model)):
                        rows = [None] * support.dots(model)
                        rows[at] = other
                        due = support.text(support.filled(model, rows))
                        self.assertEqual(graft(kinds, support.text(model), at, support.text(other)), due)

    def test_some_by_hand(self):
        self.assertEqual(graft((2, 2), "a..", 0, "b.."), "ab...")
        self.assertEqual(graft((2, 2), "a..", 1, "b.."), "a.b..")
        self.assertEqual(graft((2, 2), "ab...", 1, "a.b.."), "ab.a.b...")
        self.assertEqual(graft((2, 3), "b...", 1, "a.."), "b.a...")

    def test_the_open_entrance_changes_nothing(self):
        for kinds in SOME_KINDS:
            for word in words(kinds, 2):
                self.assertEqual(graft(kinds, ".", 0, word), word)
                self.assertEqual(graft_all(kinds, ".", [word]), word)
                self.assertEqual(graft_all(kinds, word, ["."] * width(kinds, word)), word)
                for at in range(width(kinds, word)):
                    self.assertEqual(graft(kinds, word, at, "."), word)

    def test_the_size_is_the_sum(self):
        for kinds in ((2, 2), (3, 2)):
            for one in words(kinds, 2):
                for other in words(kinds, 2):
                    made = graft(kinds, one, 0, other)
                    self.assertEqual(size(kinds, made), size(kinds, one) + size(kinds, other))
                    self.assertEqual(width(kinds, made), width(kinds, one) + width(kinds, other) - 1)

    def test_grafting_within_what_was_grafted(self):
        for kinds in ((2,), (3, 2)):
            for one in words(kinds, 2):
                for other in words(kinds, 2):
                    for third in words(kinds, 1):
                        for at in range(width(kinds, one)):
                            for behind in range(width(kinds, other)):
                                inner = graft(kinds, one, at, graft(kinds, other, behind, third))
                                outer = graft(kinds, graft(kinds, one, at, other), at + behind, third)
                                self.assertEqual(inner, outer)

    def test_different_dots_in_either_order(self):
        for kinds in ((2,), (3, 2)):
            for one in words(kinds, 2):
                many = width(kinds, one)
                for other in words(kinds, 1):
                    for third in words(kinds, 1):
                        for late in range(many):
                            for early in range(late):
                                late_first = graft(kinds, graft(kinds, one, late, other), early, third)
                                shifted = late + width(kinds, third) - 1
                                early_first = graft(kinds, graft(kinds, one, early, third), shifted, other)
                                self.assertEqual(late_first, early_first)

    def test_the_order_is_kept(self):
        for kinds, wide in (((2,), 4), ((2, 2), 3), ((3,), 5)):
            row = listed(kinds, wide - 1 if kinds[0] == 2 else 2, wide)
            for one, other in zip(row, row[1:]):
                for third in words(kinds, 2):
                    for at in range(wide):
                        made = graft(kinds, one, at, third), graft(kinds, other, at, third)
                        self.assertIs(is_before(kinds, *made), True)
                    for at in range(width(kinds, third)):
                        made = graft(kinds, third, at, one), graft(kinds, third, at, other)
                        self.assertIs(is_before(kinds, *made), True)

    def test_dots_that_are_not_there(self):
        for kinds in SOME_KINDS:
            for word in words(kinds, 2):
                for at in NO_INDEXES + [width(kinds, word), -width(kinds, word)]:
                    self.assertRaises(BadNumber, graft, kinds, word, at, ".")
                    self.assertRaises(BadNumber, graft, kinds, word, at, word)


class GraftingAll(unittest.TestCase):
    def test_all_at_once_is_one_after_the_other(self):
        for kinds in SOME_KINDS:
            some = words(kinds, 2)
            for word in words(kinds, 2):
                many = width(kinds, word)
                for start in range(0, len(some), 3):
                    trees = [some[(start + at) % len(some)] if at < 3 else "." for at in range(many)]
                    if sum(width(kinds, tree) for tree in trees) > 14:
                        self.assertRaises(TooLarge, graft_all, kinds, word, trees)
                        continue
                    one_by_one = word
                    for at in range(many - 1, -1, -1):
                        one_by_one = graft(kinds, one_by_one, at, trees[at])
                    self.assertEqual(graft_all(kinds, word, trees), one_by_one)

    def test_some_by_hand(self):
        self.assertEqual(graft_all((2, 2), "a..", ["b..", "a.."]), "ab..a..")
        self.assertEqual(graft_all((2, 2), "ab...", [".", "a.b..", "b.."]), "ab.a.b..b..")

    def test_numbers_of_trees(self):
        for kinds in SOME_KINDS:
            for word in words(kinds, 2):
                many = width(kinds, word)
                for wrong in (0, many - 1, many + 1, many + 2, 50):
                    if wrong != many:
                        self.assertRaises(BadNumber, graft_all, kinds, word, ["."] * wrong)

    def test_the_list_stays(self):
        trees = ["a..", "."]
        graft_all((2,), "a..", trees)
        self.assertEqual(trees, ["a..", "."])


class Bounds(unittest.TestCase):
    def test_nine_letters(self):
        four, five = "a" * 4 + "." * 5, "a." * 5 + "."
        self.assertEqual(graft((2,), four, 2, five), "aaaa..a.a.a.a.a....")
        self.assertEqual(graft((2,), five, 5, four), "a." * 5 + four)
        self.assertRaises(TooLarge, graft, (2,), five, 0, five)
        self.assertRaises(TooLarge, graft, (2,), "a..", 1, "a" * 9 + "." * 10)
        self.assertRaises(TooLarge, graft, (2,), "a" * 9 + "." * 10, 9, "a..")
        self.assertEqual(graft((2,), "a" * 9 + "." * 10, 9, "."), "a" * 9 + "." * 10)
        self.assertEqual(graft_all((2,), "a..", [four, four]), "a" + four + four)
        self.assertRaises(TooLarge, graft_all, (2,), "a..", [four, five])
        self.assertRaises(TooLarge, graft_all, (2,), "a..", [five, four])

    def test_fourteen_dots(self):
        kinds = (2, 3)
        seven = "bbb" + "." * 7
        eight = "abbb" + "." * 8
        nine = "bbbb" + "." * 9
        self.assertEqual(graft(kinds, seven, 6, eight), seven[:-1] + eight)
        self.assertTrue(is_tree(kinds, graft(kinds, eight, 0, seven)))
        self.assertRaises(TooLarge, graft, kinds, eight, 0, eight)
        self.assertRaises(TooLarge, graft, kinds, seven, 3, nine)
        self.assertEqual(graft_all(kinds, "a..", [seven, seven]), "a" + seven + seven)
        self.assertRaises(TooLarge, graft_all, kinds, "a..", [seven, eight])
        self.assertRaises(TooLarge, graft_all, kinds, "b...", [seven, seven, "."])
        self.assertRaises(TooLarge, graft, (3,), "aaa" + "." * 7, 0, "aaaa" + "." * 9)
        self.assertEqual(graft((3,), "aaa" + "." * 7, 0, "aaa" + "." * 7), "a" * 6 + "." * 13)


class TakingApart(unittest.TestCase):
    def test_top(self):
        for kinds in ALL_KINDS:
            for model in support.models_up_to(kinds, 3 if len(kinds) < 3 else 2)[1:]:
                due = (model[0], [support.text(part) for part in model[1]])
                self.assertEqual(top(kinds, support.text(model)), due)
        self.assertEqual(top((2, 2), "ab..b.."), ("a", ["b..", "b.."]))
        self.assertEqual(top((3, 2), "a.b..."), ("a", [".", "b..", "."]))

    def test_top_makes_the_tree_again(self):
        for kinds in SOME_KINDS:
            for word in words(kinds, 2)[1:]:
                letter, trees = top(kinds, word)
                self.assertEqual(graft_all(kinds, letter + "." * len(trees), trees), word)

    def test_top_of_the_open_entrance(self):
        for kinds in ALL_KINDS:
            self.assertRaises(NoAnswer, top, kinds, ".")

    def test_top_gives_lists_of_their_own(self):
        top((2,), "aa...")[1].clear()
        self.assertEqual(top((2,), "aa..."), ("a", ["a..", "."]))

    def test_parts(self):
        for kinds in ALL_KINDS:
            for model in support.models_up_to(kinds, 3 if len(kinds) < 3 else 2):
                word = support.text(model)
                for letter, part in enumerate(support.parts(model)):
                    self.assertEqual(part_at(kinds, word, letter), support.text(part))
                    self.assertTrue(part_at(kinds, word, letter).startswith(word.replace(".", "")[letter]))

    def test_contexts(self):
        for kinds in ALL_KINDS:
            for model in support.models_up_to(kinds, 3 if len(kinds) < 3 else 2):
                word = support.text(model)
                for letter in range(support.letters(model)):
                    context, at = context_of(kinds, word, letter)
                    self.assertEqual(context, support.text(support.put_at(model, letter, None)))
                    self.assertEqual(graft(kinds, context, at, part_at(kinds, word, letter)), word)
                    before = [at for at, sign in enumerate(word) if sign != "."][letter]
                    self.assertEqual(at, word[:before].count("."))

    def test_some_by_hand(self):
        self.assertEqual(part_at((2, 2), "a.ab...", 1), "ab...")
        self.assertEqual(part_at((2, 2), "a.ab...", 2), "b..")
        self.assertEqual(context_of((2, 2), "a.ab...", 2), ("a.a..", 1))
        self.assertEqual(context_of((2, 2), "ab.b...", 0), (".", 0))
        self.assertEqual(context_of((2,), "a.a..", 1), ("a..", 1))
        self.assertEqual(context_of((2,), "aa...", 1), ("a..", 0))

    def test_letters_that_are_not_there(self):
        for kinds in SOME_KINDS:
            for word in words(kinds, 2):
                many = size(kinds, word)
                for letter in NO_INDEXES + [many, -many - 1]:
                    self.assertRaises(BadNumber, part_at, kinds, word, letter)
                    self.assertRaises(BadNumber, context_of, kinds, word, letter)
        self.assertRaises(BadNumber, part_at, (2,), ".", 0)
        self.assertRaises(BadNumber, context_of, (2,), ".", 0)

    def test_mirrored(self):
        for kinds in ALL_KINDS:
            for model in support.models_up_to(kinds, 3 if len(kinds) < 3 else 2):
                word = support.text(model)
                self.assertEqual(mirrored(kinds, word), support.text(support.turned(model)))
                self.assertEqual(mirrored(kinds, mirrored(kinds, word)), word)
        self.assertEqual(mirrored((2, 2), "ab..."), "a.b..")
        self.assertEqual(mirrored((3, 2), "ab...."), "a..b..")
        self.assertEqual(mirrored((3, 2), "ab..a...."), "a.a...b..")
        self.assertEqual(mirrored((2,), "."), ".")
        self.assertEqual(mirrored((2,), "a" * 9 + "." * 10), "a." * 9 + ".")


class OrderOfErrors(unittest.TestCase):
    def calls(self, kinds, tree, other, index):
        return [
            (graft, (kinds, tree, index, other)), (graft_all, (kinds, tree, [other])), (top, (kinds, tree)),
            (part_at, (kinds, tree, index)), (context_of, (kinds, tree, index)), (mirrored, (kinds, tree)),
        ]

    def test_kinds_first(self):
        for kinds in WRONG_KINDS:
            for tree, index in (("a..", 0), ("..", -1), (".", 5)):
                for function, arguments in self.calls(kinds, tree, "..", index):
                    self.assertRaises(NotKinds, function, *arguments)

    def test_then_trees(self):
        for word in WRONG_TREES:
            for index in (0, -1):
                for function, arguments in self.calls((2,), word, "a..", index):
                    self.assertRaises(NotTree, function, *arguments)
                self.assertRaises(NotTree, graft, (2,), "a..", index, word)
            for trees in ([word], [word, "."], [".", word], [".", ".", word]):
                self.assertRaises(NotTree, graft_all, (2,), "a..", trees)

    def test_then_numbers_ahead_of_sizes(self):
        large = "a" * 9 + "." * 10
        self.assertRaises(BadNumber, graft, (2,), large, 10, large)
        self.assertRaises(BadNumber, graft, (2,), large, -1, large)
        self.assertRaises(BadNumber, graft_all, (2,), large, [large])
        self.assertRaises(BadNumber, graft_all, (2,), large, [large] * 11)
        self.assertRaises(TooLarge, graft_all, (2,), large, [large] * 10)
