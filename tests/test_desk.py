import itertools
import unittest

from graftworth.alike import decide, kept_trees
from graftworth.books import Book, read_book, text_of_book
from graftworth.counts import avoiding_number
from graftworth.desk import Desk
from graftworth.overlaps import completed
from graftworth.steps import down, low_trees
from graftworth.sums import Sum, read_sum, text_of_sum
from graftworth.trees import counted, listed
import support
from test_lines import OTHERS

EXAMPLE = "0 2 ; 2 3 -1 a.a.. 1 aa..."
SETUP = [
    "sum left 0 2 2 3 1 aa...", "sum right 0 2 2 3 1 a.a..", "sum both 0 2 2 3 -1/2 a.a.. 3 aa...", "sum none 0 2 2 3",
    "sum three 3 2 2 3 2 aa...", "sum two 0 22 2 3 1 ab...", "sum large 0 2 7 8 1 aaaaaaa........", "sum one 0 2 1 2 5 a..",
    "book k " + EXAMPLE, "book opposite 0 2 ; 2 3 1 a.a.. 1 aa...", "book empty 0 2", "book ops 0 22 ; 2 3 1 a.b.. 1 ab...",
    "book wide 0 3 ; 2 5 1 aa.....",
]
# For each command the words behind it, as the table of the document tells them: names (N, L, B, S), integers (X), kinds (K),
# any words (W), and any number of words (*); and lines that have an ordinary answer.
COMMANDS = {
    "sum": ("N*", [("sum new 0 2 2 3 -1 a.a.. 1/2 aa...", "2"), ("sum new 31 232 0 1 30 .", "1"), ("sum left 0 2 5 14", "0"), ("sum k 2 3 1 3 1 a...", "1")]),
    "book": ("N*", [("book new " + EXAMPLE, "1"), ("book new 5 33", "0"), ("book left 0 2 ; 1 2 1 a.. ; 1 2 2 a..", "2")]),
    "drop": ("S", [("drop left", "ok"), ("drop k", "ok")]),
    "show": ("S", [("show left", "0 2 2 3 1 aa..."), ("show both", "0 2 2 3 -1/2 a.a.. 3 aa..."), ("show none", "0 2 2 3"), ("show k", EXAMPLE),
                   ("show empty", "0 2")]),
    "plus": ("NLL", [("plus new left right", "2"), ("plus left left left", "1"), ("plus k none none", "0")]),
    "less": ("NLL", [("less new left right", "2"), ("less right left left", "0"), ("less new both left", "2")]),
    "scale": ("NLW", [("scale new both -2/3", "2"), ("scale new both 0", "0"), ("scale three three 2", "1")]),
    "graft": ("NLXL", [("graft new both 2 both", "4"), ("graft new left 0 one", "1"), ("graft left none 1 left", "0")]),
    "mirror": ("NS", [("mirror new both", "2"), ("mirror k k", "1"), ("mirror new empty", "0")]),
    "plain": ("NLB", [("plain new both k", "1"), ("plain left none k", "0"), ("plain new both empty", "2")]),
    "down": ("NLB", [("down new both k", "1"), ("down new right k", "1"), ("down left left empty", "1")]),
    "complete": ("NBX", [("complete new opposite 6", "2"), ("complete k k 2", "1"), ("complete new empty 1", "0")]),
    "dual": ("NB", [("dual new k", "1"), ("dual new empty", "2"), ("dual ops ops", "7")]),
    "head": ("L", [("head both", "aa... 3"), ("head right", "a.a.. 1"), ("head two", "ab... 1")]),
    "lost": ("LB", [("lost left k", "no"), ("lost none k", "yes"), ("lost none empty", "yes")]),
    "alike": ("LLB", [("alike left right k", "yes"), ("alike left right opposite", "no"), ("alike left both k", "no")]),
    "decide": ("LLB", [("decide left right k", "alike"), ("decide left right opposite", "apart"), ("decide left left empty", "alike")]),
    "kept": ("BXX", [("kept k 3 4", "a.a.a.."), ("kept k 0 1", "."), ("kept k 3 3", "empty"), ("kept empty 2 3", "a.a.. aa...")]),
    "low": ("BXX", [("low k 2 3", "a.a.."), ("low k 9 1", "empty"), ("low ops 1 2", "a.. b..")]),
    "dims": ("BX", [("dims k 4", "1 1 1 1"), ("dims empty 5", "1 1 2 5 14"), ("dims opposite 1", "1"), ("dims wide 3", "1 0 1")]),
    "whole": ("BX", [("whole k 6", "yes"), ("whole opposite 2", "yes"), ("whole opposite 3", "no")]),
    "linked": ("BX", [("linked k 9", "1"), ("linked empty 2", "0"), ("linked k 0", "1")]),
    "bracket": ("KW", [("bracket 22 ab...", "a(b(.,.),.)"), ("bracket 2 .", "."), ("bracket 3 a...", "a(.,.,.)")]),
    "paths": ("KW", [("paths 22 ab...", "ab ab a"), ("paths 2 .", "-"), ("paths 23 b..a..", "b b ba ba")]),
    "count": ("KXX", [("count 22 2 3", "8"), ("count 2 9 10", "4862"), ("count 2 0 1", "1"), ("count 3 2 4", "0")]),
    "list": ("KXX", [("list 2 2 3", "a.a.. aa..."), ("list 2 0 1", "."), ("list 2 0 2", "empty"), ("list 23 1 2", "a..")]),
    "stands": ("KWW", [("stands 2 aa..a.. a.a..", "0"), ("stands 2 aaa.... a..", "0 1 2"), ("stands 2 aaa.... a.a..", "empty"), ("stands 2 . a..", "empty")]),
    "avoid": ("KXX*", [("avoid 2 4 5 aa.a..a..", "13"), ("avoid 2 4 5", "14"), ("avoid 2 4 5 aa... a.a..", "0"), ("avoid 2 0 1 a..", "1")]),
}
WRONG_NAMES = ["A", "left1", "leftLeft", "thirteenchars", "abcdefghijklm", "1", "-", "le_ft", "left.", "Left"]
WRONG_INTEGERS = ["-1", "100", "00", "01", "+1", "x", "1.", "1/1", "1000", "0x1", "9" * 50]
WRONG_KINDS = ["", "1", "4", "2222", "0", "22a", "a", "2.", "-2", "21", "232323", "9" * 40]


def ready():
    desk = Desk()
    for line in SETUP:
        assert desk.answer(line).isdigit(), line
    return desk


def told(desk):
    """What a desk has, as texts."""
    return {name: text_of(desk.thing(name)) for name in desk.names()}


def text_of(thing):
    return text_of_sum(thing) if isinstance(thing, Sum) else text_of_book(thing)


def lines():
    for command, (form, cases) in COMMANDS.items():
        for line, answer in cases:
            yield command, form, line.split(" "), answer


class Ordinary(unittest.TestCase):
    def test_answers(self):
        for _, form, words, answer in lines():
            desk = ready()
            before = told(desk)
            self.assertEqual(desk.answer(" ".join(words)), answer, words)
            if form[0] != "N" and words[0] != "drop":
                self.assertEqual(told(desk), before)
            else:
                others = {name: text for name, text in told(desk).items() if name != words[1]}
                self.assertEqual(others, {name: text for name, text in before.items() if name != words[1]})

    def test_what_is_put_under_names(self):
        left, both, one = read_sum("0 2 2 3 1 aa..."), read_sum("0 2 2 3 -1/2 a.a.. 3 aa..."), read_sum("0 2 1 2 5 a..")
        right = read_sum("0 2 2 3 1 a.a..")
        k, opposite = read_book(EXAMPLE), read_book("0 2 ; 2 3 1 a.a.. 1 aa...")
        for line, due in (
            ("sum new 7 22 1 2 3 b..", read_sum("7 22 1 2 3 b..")), ("book new 7 22 ; 1 2 3 b..", read_book("7 22 ; 1 2 3 b..")),
            ("plus new left right", left + right), ("less new left right", left - right), ("less new right left", right - left),
            ("scale new both -2/3", both.scaled((-2, 3))), ("graft new both 2 one", both.grafted(2, one)),
            ("graft new both 0 one", both.grafted(0, one)), ("graft new one 1 both", one.grafted(1, both)),
            ("mirror new left", right), ("mirror new k", k.mirrored()), ("plain new both k", read_sum("0 2 2 3 5/2 a.a..")),
            ("down new both opposite", down(opposite, both)[0]), ("complete new opposite 6", completed(opposite, 6)),
            ("complete new opposite 2", opposite), ("dual new empty", read_book("0 2 ; 2 3 1 a.a.. ; 2 3 1 aa...")), ("dual new k", k),
        ):
            desk = ready()
            answer = desk.answer(line)
            self.assertEqual(desk.thing("new"), due, line)
            self.assertEqual(answer, str(len(due)))
            self.assertEqual(desk.answer("show new"), text_of(due))

    def test_names_that_are_put_again(self):
        desk = Desk()
        self.assertEqual(desk.answer("sum a 0 2 1 2 1 a.."), "1")
        self.assertEqual(desk.answer("plus a a a"), "1")
        self.assertEqual(desk.answer("graft a a 0 a"), "1")
        self.assertEqual(desk.answer("show a"), "0 2 2 3 4 aa...")
        self.assertEqual(desk.answer("book a 0 2 ; 2 3 1 aa..."), "1")
        self.assertEqual(desk.answer("dual a a"), "1")
        self.assertEqual(desk.answer("show a"), "0 2 ; 2 3 1 a.a..")
        self.assertEqual(desk.answer("head a"), "refused")
        self.assertEqual(desk.answer("sum a 0 2 1 2"), "0")
        self.assertEqual(desk.answer("show a"), "0 2 1 2")
        self.assertEqual(desk.names(), ["a"])

    def test_names_and_things(self):
        desk = Desk()
        self.assertEqual(desk.names(), [])
        for name in ("b", "abcdefghijkl", "a", "sum", "zz"):
            self.assertIsNone(desk.thing(name))
            desk.answer(f"sum {name} 0 2 1 2 1 a..")
        desk.answer("book book 0 2")
        self.assertEqual(desk.names(), ["a", "abcdefghijkl", "b", "book", "sum", "zz"])
        self.assertEqual(desk.thing("sum"), read_sum("0 2 1 2 1 a.."))
        self.assertEqual(desk.thing("book"), Book(0, (2,), []))
        desk.names().clear()
        self.assertEqual(desk.answer("drop b"), "ok")
        self.assertEqual(desk.answer("drop b"), "unknown b")
        self.assertEqual(desk.names(), ["a", "abcdefghijkl", "book", "sum", "zz"])
        self.assertIsNone(desk.thing("b"))
        for name in ("", "A", "no name", "thirteenchars"):
            self.assertIsNone(desk.thing(name))

    def test_against_the_functions(self):
        numbers = support.Numbers(91)
        desk = ready()
        for size, width in itertools.product(range(4), range(1, 5)):
            for name in ("k", "opposite", "ops", "empty"):
                book = desk.thing(name)
                self.assertEqual(desk.answer(f"kept {name} {size} {width}"), " ".join(kept_trees(book, size, width)) or "empty")
                self.assertEqual(desk.answer(f"low {name} {size} {width}"), " ".join(low_trees(book, size, width)) or "empty")
            for kinds in support.SOME_KINDS:
                word = "".join(str(held) for held in kinds)
                self.assertEqual(desk.answer(f"count {word} {size} {width}"), str(counted(kinds, size, width)))
                self.assertEqual(desk.answer(f"list {word} {size} {width}"), " ".join(listed(kinds, size, width)) or "empty")
                trees = listed(kinds, 2, 2 * kinds[0] - 1)
                pattern = trees[numbers.below(len(trees))]
                due = avoiding_number(kinds, [pattern], size, width)
                self.assertEqual(desk.answer(f"avoid {word} {size} {width} {pattern}"), str(due))

    def test_sums_and_books_of_many_words(self):
        numbers = support.Numbers(92)
        desk = Desk()
        for p in (0, 5):
            for kinds in support.SOME_KINDS:
                one = Sum(p, kinds, 2, 2 * kinds[0] - 1, support.random_terms(numbers, p, kinds, 2, 2 * kinds[0] - 1, 8))
                self.assertEqual(desk.answer("sum s " + text_of_sum(one)), str(len(one)))
                self.assertEqual(desk.answer("show s"), text_of_sum(one))
                book = Book(p, kinds, [one, one])
                self.assertEqual(desk.answer("book s " + text_of_book(book)), "2")
                self.assertEqual(desk.answer("show s"), text_of_book(book))

    def test_large_numbers(self):
        desk = Desk()
        desk.answer("sum a 0 2 1 2 " + "9" * 60 + " a..")
        for _ in range(7):
            desk.answer("graft b a 0 a")
            self.assertEqual(desk.answer("scale a a " + "9" * 60), "1")
        figures = str((10 ** 60 - 1) ** 8)
        self.assertEqual(desk.answer("head a"), "a.. " + figures)
        self.assertEqual(desk.answer("scale a a " + "9" * 61), "refused")


class Bad(unittest.TestCase):
    def assert_bad(self, line, desk=None):
        desk = desk or ready()
        before = told(desk)
        self.assertEqual(desk.answer(line), "bad", line)
        self.assertEqual(told(desk), before)

    def test_malformed_lines(self):
        desk = ready()
        for line in ("", " ", "  ", " show left", "show left ", "show  left", " ", "drop left ", "sum new  0 2 1 2"):
            self.assert_bad(line, desk)
        for sign in OTHERS:
            for line in ("show" + sign + "left", "show left" + sign, sign + "show left", "sum new 0 2 1 2 1 a.." + sign, "drop left" + sign):
                self.assert_bad(line, desk)

    def test_commands_that_are_none(self):
        desk = ready()
        for line in ("foo", "Show left", "showleft", "shows left", "left", "drops left", "show! left", "sums new 0 2 1 2", "~", "N", "names", "thing left"):
            self.assert_bad(line, desk)

    def test_numbers_of_words(self):
        desk = ready()
        for _, form, words, _ in lines():
            few = len(form) - (1 if form[-1] == "*" else 0)
            for many in range(few):
                self.assert_bad(" ".join(words[:1 + many]), desk)
            if form[-1] != "*":
                for more in ([words[-1]], ["x"], ["0"], ["x", "y"], ["left"]):
                    self.assert_bad(" ".join(words + more), desk)
        # With no word behind the name.
        self.assertEqual(desk.answer("sum new"), "refused")
        self.assertEqual(desk.answer("book new"), "refused")

    def test_words_that_are_no_names(self):
        desk = ready()
        for _, form, words, _ in lines():
            for at, sign in enumerate(form):
                if sign in "NLBS":
                    for wrong in WRONG_NAMES:
                        self.assert_bad(" ".join(words[:at + 1] + [wrong] + words[at + 2:]), desk)
        desk.answer("sum abcdefghijkl 0 2 1 2")
        self.assertEqual(desk.answer("show abcdefghijkl"), "0 2 1 2")

    def test_words_that_are_no_integers(self):
        desk = ready()
        for _, form, words, _ in lines():
            for at, sign in enumerate(form):
                if sign == "X":
                    for wrong in WRONG_INTEGERS:
                        self.assert_bad(" ".join(words[:at + 1] + [wrong] + words[at + 2:]), desk)

    def test_bad_comes_before_unknown_and_refused(self):
        desk = ready()
        for line in ("plus new nothing k1", "plus N nothing left", "kept nothing 2 100", "kept left 1 -1", "graft new k 100 left", "graft new k 1 Left",
                     "count 5 1 100", "list 5 01 1", "avoid 5 1 100 x", "complete new left 007", "linked nothing x", "alike nothing left"):
            self.assert_bad(line, desk)


class Unknown(unittest.TestCase):
    def test_first_word_that_names_nothing(self):
        desk = ready()
        before = told(desk)
        for _, form, words, _ in lines():
            places = [at + 1 for at, sign in enumerate(form) if sign in "LBS"]
            for chosen in itertools.product((False, True), repeat=len(places)):
                if any(chosen):
                    changed = list(words)
                    for at, unknown in zip(places, chosen):
                        if unknown:
                            changed[at] = "no" + "abcdefg"[at]
                    first = next(changed[at] for at, unknown in zip(places, chosen) if unknown)
                    self.assertEqual(desk.answer(" ".join(changed)), "unknown " + first)
                    self.assertEqual(told(desk), before)

    def test_unknown_comes_before_refused(self):
        desk = ready()
        before = told(desk)
        for line, due in (
            ("plus new k nothing", "unknown nothing"), ("plus new nothing k", "unknown nothing"), ("kept nothing 99 99", "unknown nothing"),
            ("alike k k nothing", "unknown nothing"), ("scale new nothing x", "unknown nothing"), ("graft new large 99 nothing", "unknown nothing"),
        ):
            self.assertEqual(desk.answer(line), due)
            self.assertEqual(told(desk), before)

    def test_new_names_need_nothing(self):
        desk = ready()
        self.assertEqual(desk.answer("plus nothing left left"), "1")
        self.assertEqual(desk.answer("mirror nowhere left"), "1")


class Refused(unittest.TestCase):
    def assert_refused(self, line, desk):
        before = told(desk)
        self.assertEqual(desk.answer(line), "refused", line)
        self.assertEqual(told(desk), before)

    def test_sums_and_books_that_are_mistaken(self):
        desk = ready()
        for _, form, words, _ in lines():
            for at, sign in enumerate(form):
                if sign in "LB":
                    wrong = {"L": ["k", "empty"], "B": ["left", "none"]}[sign]
                    for name in wrong:
                        self.assert_refused(" ".join(words[:at + 1] + [name] + words[at + 2:]), desk)

    def test_kinds_that_are_none(self):
        desk = ready()
        for _, form, words, _ in lines():
            if form[0] == "K":
                for wrong in WRONG_KINDS[1:]:
                    self.assert_refused(" ".join([words[0], wrong] + words[2:]), desk)

    def test_operations_that_raise_errors(self):
        desk = ready()
        for line in (
            # What is read.
            "sum new", "sum new 0", "sum new 0 2 2", "sum new 0 2 2 3 1", "sum new 0 2 2 3 1 aa..", "sum new 0 2 2 3 1 aa... 1 a.a..", "sum new 1 2 2 3",
            "sum new 0 4 2 3", "sum left 0 2 2 3 0 aa...", "sum new 0 2 2 3 2/4 aa...", "sum new " + EXAMPLE, "book new", "book new 0", "book k 0 2 ;",
            "book new 0 2 ; 2 3", "book new 0 2 2 3 1 aa...", "book new 0 2 ; 0 1 1 .", "book new 4 2", "book k 0 2" + " ; 1 2 1 a.." * 11,
            # Fields, kinds, sizes and widths that differ.
            "plus new left three", "less new left two", "plus new left one", "less new left large", "graft new left 0 three", "graft new left 0 two",
            "plain new three k", "plain new two k", "down new three k", "lost two k", "lost left wide", "alike left one k", "alike left left ops",
            "alike left three k", "decide left one k", "decide left three k", "decide two two k",
            # Numbers.
            "scale new left x", "scale new left 2/4", "scale new left 1/0", "scale new three 3", "scale new three -1", "scale new three 1/2", "scale new left -0",
            # Dots, sizes and bounds.
            "graft new left 3 left", "graft new left 99 left", "graft new large 0 large", "plain new large k", "lost large k", "alike large large k",
            "decide large large k", "complete new k 0", "complete new k 7", "complete new k 99", "complete new k 1", "dual new wide",
            "head none", "kept k 10 3", "kept k 3 0", "kept k 3 15", "kept k 7 8", "low k 10 3", "low k 7 8", "low k 0 0", "dims k 0", "dims k 6",
            "whole k 0", "whole k 7", "linked k 10", "linked wide 2", "count 2 10 3", "count 2 3 0", "count 2 3 15", "list 2 7 8", "list 2 10 1",
            "avoid 2 10 3", "avoid 2 3 15", "avoid 2 3 4 .", "avoid 2 3 4 aaaaa......", "avoid 2 3 4" + " a.." * 31,
            # Trees.
            "bracket 2 ab...", "bracket 2 a.", "bracket 2 a(.,.)", "paths 2 a...", "paths 2 x", "stands 2 a. a..", "stands 2 a.. a.", "stands 2 a.. .",
            "avoid 2 3 4 a.", "avoid 2 3 4 a.. b..", "avoid 2 10 3 a..",
        ):
            self.assert_refused(line, desk)

    def test_duals_that_are_too_large(self):
        desk = ready()
        desk.answer("book huge 0 222")
        self.assert_refused("dual huge huge", desk)
        self.assert_refused("dims huge 5", desk)
        self.assertEqual(desk.answer("dims huge 2"), "1 3")


class Lists(unittest.TestCase):
    every = SETUP + [" ".join(words) for _, _, words, _ in lines()] + ["", "foo", "show nothing", "plus new left three", "list 2 1 1"]

    def test_answers_one_by_one(self):
        desk = Desk()
        due = [desk.answer(line) for line in self.every]
        self.assertEqual(Desk().answers(self.every), due)
        self.assertEqual(Desk().answers([]), [])

    def test_later_lines_do_not_matter(self):
        numbers = support.Numbers(93)
        for _ in range(5):
            some = SETUP + [self.every[numbers.below(len(self.every))] for _ in range(40)]
            due = Desk().answers(some)
            for many in (0, 1, 13, 20, 37, len(some)):
                self.assertEqual(Desk().answers(some[:many]), due[:many])

    def test_alike_and_decide(self):
        desk = ready()
        some = {"yes": 0, "no": 0, "refused": 0}
        names = ["left", "right", "both", "none", "three", "two", "large", "one"]
        for one, other in itertools.product(names, repeat=2):
            for book in ("k", "opposite", "empty", "ops", "wide"):
                answer, decided = desk.answer(f"alike {one} {other} {book}"), desk.answer(f"decide {one} {other} {book}")
                some[answer] += 1
                self.assertEqual({"yes": "alike", "no": "apart", "refused": "refused"}[answer], decided)
                if decided != "refused":
                    self.assertEqual(decided, decide(desk.thing(book), desk.thing(one), desk.thing(other))[0])
        self.assertGreater(min(some.values()), 10)

    def test_lists_stay(self):
        some = list(self.every)
        answers = Desk().answers(some)
        answers.clear()
        self.assertEqual(some, self.every)

    def test_desks_of_their_own(self):
        one, other = Desk(), Desk()
        one.answer("sum a 0 2 1 2")
        self.assertEqual(other.names(), [])
