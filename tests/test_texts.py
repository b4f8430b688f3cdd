import unittest

from graftworth.errors import Malformed, NotKinds, NotTree
from graftworth.texts import bracket_text, read_tree
import support
from support import ALL_KINDS, SOME_KINDS, WRONG_KINDS, WRONG_TREES


def beginnings(kinds, most):
    """All texts with which the bracket text of a tree of at most this size begins."""
    found = set()
    for model in support.models_up_to(kinds, most):
        word = support.brackets(model)
        found.update(word[:end] for end in range(len(word) + 1))
    return found


class BracketTexts(unittest.TestCase):
    def test_there_and_back(self):
        for kinds in ALL_KINDS:
            for model in support.models_up_to(kinds, 3 if len(kinds) < 3 else 2):
                word, tree = support.brackets(model), support.text(model)
                self.assertEqual(bracket_text(kinds, tree), word)
                self.assertEqual(read_tree(kinds, word), tree)

    def test_some_by_hand(self):
        self.assertEqual(bracket_text((2, 2), "ab..."), "a(b(.,.),.)")
        self.assertEqual(bracket_text((2, 3), "b.a..."), "b(.,a(.,.),.)")
        self.assertEqual(read_tree((2, 2), "a(b(.,.),.)"), "ab...")
        self.assertEqual(read_tree((2,), "."), ".")
        self.assertEqual(bracket_text((2,), "."), ".")

    def test_largest_trees(self):
        for kinds, tree in (((2,), "a" * 9 + "." * 10), ((2,), "a." * 9 + "."), ((3,), "a" * 6 + "." * 13),
                            ((2, 3), "bbbbbba" + "." * 14), ((3, 2, 2), "a.." * 4 + "bbbbb" + "." * 6)):
            self.assertEqual(read_tree(kinds, bracket_text(kinds, tree)), tree)

    def test_no_trees(self):
        for tree in WRONG_TREES + ["a" * 10 + "." * 11]:
            self.assertRaises(NotTree, bracket_text, (2,), tree)
        self.assertRaises(NotTree, bracket_text, (3,), "a" * 7 + "." * 15)

    def test_no_kinds(self):
        for kinds in WRONG_KINDS:
            for tree in (".", "a..", ""):
                self.assertRaises(NotKinds, bracket_text, kinds, tree)
            for text in (".", "a(.,.)", "", ")"):
                self.assertRaises(NotKinds, read_tree, kinds, text)


class MalformedTexts(unittest.TestCase):
    def malformed(self, kinds, text, at):
        with self.assertRaises(Malformed, msg=(kinds, text)) as caught:
            read_tree(kinds, text)
        self.assertEqual(caught.exception.at, at, (kinds, text))

    def test_a_character_changed(self):
        for kinds in SOME_KINDS:
            most = 3 if len(kinds) == 1 else 2
            begun = beginnings(kinds, most + 1)
            for model in support.models_up_to(kinds, most):
                for text in support.changed(support.brackets(model), ".abcd(),) "):
                    self.check(kinds, text, begun)

    def check(self, kinds, text, begun):
        ends = [end for end in range(len(text)) if text[:end + 1] not in begun]
        if ends:
            self.malformed(kinds, text, ends[0])
            return
        try:
            tree = read_tree(kinds, text)
        except Malformed as why:
            self.assertEqual(why.at, len(text), text)
            return
        self.assertEqual(support.brackets(support.parsed(kinds, tree)[1]), text)

    def test_cut_off(self):
        for kinds in SOME_KINDS:
            for model in support.models_up_to(kinds, 2):
                text = support.brackets(model)
                for end in range(len(text)):
                    self.malformed(kinds, text[:end], end)

    def test_more_behind(self):
        for kinds in SOME_KINDS:
            for model in support.models_up_to(kinds, 2):
                text = support.brackets(model)
                for sign in ".a(),; \n\u0661":
                    self.malformed(kinds, text + sign, len(text))
                    self.malformed(kinds, text + sign + "a(.,.)", len(text))

    def test_some_by_hand(self):
        for text, at in (("", 0), (" ", 0), (" .", 0), (". ", 1), ("..", 1), ("a", 1), ("a..", 1), ("a(", 2), ("a()", 2),
                         ("a(.)", 3), ("a(.,", 4), ("a(.,.", 5), ("a(.,.,.)", 5), ("a(.,.))", 6), ("a(.,,)", 4),
                         ("b(.,.)", 0), ("A(.,.)", 0), ("a (.,.)", 1), ("a(. ,.)", 3), ("a[.,.]", 1), ("(.,.)", 0),
                         ("a(b(.,.),.)", 2), ("a(a,.)", 3), ("a(a(.,.)", 8), ("aa...", 1)):
            self.malformed((2,), text, at)
        self.malformed((2, 3), "b(.,.)", 5)
        self.malformed((2, 3), "b(.,.,.,.)", 7)
        self.malformed((2, 3), "a(b(.,.,.),c(.,.))", 11)

    def test_too_many_letters(self):
        for kinds in ((2,), (2, 3)):
            # The tenth letter is wrong, whatever stands behind it.
            for rest in ("", "(", "(.,.)" + ",.)" * 9, " x"):
                self.malformed(kinds, "a(" * 9 + "a" + rest, 18)
                self.malformed(kinds, "a(.," * 9 + "a" + rest, 36)
        self.malformed((2, 3), "a(" * 9 + "b(.,.,.)" + ",.)" * 9, 18)
        side = "a(a(a(a(.,.),.),.),.)"
        self.malformed((2,), f"a({side},a(a(a(a(a(.,.),.),.),.),.))", len(f"a({side},") + 8)
        self.assertEqual(read_tree((2,), f"a({side},a(a(a(a(.,.),.),.),.))"), "aaaaa.....aaaa.....")

    def test_too_many_dots(self):
        # Seven letters with three entrances each cannot have less than fifteen dots.
        self.malformed((3,), "a(" * 6 + "a(.,.,.)" + ",.,.)" * 6, 12)
        self.malformed((3,), "a(.,.," * 6 + "a", 36)
        self.malformed((2, 3), "b(" * 6 + "b(.,.,.)", 12)
        self.malformed((2, 3), "b(" * 6 + "a(" + "a(.,.)", 14)
        self.malformed((2, 3), "a(" * 5 + "b(" * 4 + "a(.,.)", 18)
        self.malformed((2, 3), "a(" * 4 + "b(" * 4 + "b(.,.,.)", 16)
        self.malformed((2, 3), "a(" * 3 + "b(" * 5 + "a(.,.)", 16)
        most = "b(" * 6 + "a(.,.)" + ",.,.)" * 6
        self.assertEqual(read_tree((2, 3), most), "bbbbbba" + "." * 14)
        self.malformed((2, 3), most.replace("a(.,.)", "a(.,a(.,.))"), most.index("a") + 4)
        self.malformed((2, 3), most[:-2] + "a(.,.))", len(most) - 2)

    def test_long_texts(self):
        self.malformed((2,), "a(" * 100000, 18)
        self.malformed((2,), "." * 100000, 1)
        self.malformed((2,), "a(.,.)" * 10000, 6)
