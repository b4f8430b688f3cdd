import unittest

from graftworth.alike import decide
from graftworth.books import Book, placed, placings, read_book
from graftworth.certificates import comes_to_zero, is_chain, shown, shows_complete
from graftworth.errors import BadNumber, NotBook, NotKinds, NotSum, TooLarge
from graftworth.overlaps import difference, is_complete, overlaps
from graftworth.steps import down, standings, step_down
from graftworth.sums import Sum, read_sum
import support

EXAMPLE = "0 2 ; 2 3 -1 a.a.. 1 aa..."
RELATIONS = [[("aa...", (1, 1)), ("a.a..", (-1, 1))]]
LEFT, RIGHT = [("aa...", (1, 1))], [("a.a..", (1, 1))]
PLACING = (0, ".", 0, (".", ".", "."))
PAPER = ("alike", [((1, 1), PLACING)])
TEXTS = [
    EXAMPLE, "0 2", "3 2 ; 2 3 1 a.a.. 1 aa...", "0 2 ; 2 3 1/2 a.a.. 3 aa... ; 3 4 1 aa..a..", "7 3 ; 2 5 1 a..a... 3 a.a.... 5 aa.....",
    "2 22 ; 2 3 1 a.b.. 1 ba...", "0 22 ; 2 3 -1 a.a.. 1 aa... ; 2 3 -2 a.b.. 1/3 ba...", "5 22 ; 1 2 1 a.. 2 b..",
    "0 32 ; 1 3 1 a... ; 2 3 1 bb...", "5 32 ; 2 4 1 a..b.. 2 ab.... 3 ba.... ; 2 3 1 b.b..", "0 2 ; 1 2 3 a..",
]
COMPLETE = [
    (EXAMPLE, 3), ("0 2 ; 2 3 1 aa...", 4), ("0 2 ; 2 3 1 a.a.. ; 2 3 1 aa...", 3), ("2 2 ; 2 3 1 a.a.. 1 aa...", 4),
    ("0 22 ; 2 3 -2 a.a.. 2 aa... ; 2 3 -1/3 b.b.. 1/3 bb... ; 2 3 -1 a.b.. 1 ba...", 3), ("7 3 ; 2 5 1 a..a... 6 aa.....", 3), ("0 2 ; 1 2 3 a..", 2),
    ("0 2 ; 2 3 2 a.a.. -2 aa... ; 3 4 1 a.a.a.. -1 aaa....", 4),
]


def books():
    return [support.book_of(text) for text in TEXTS]


def forms(book):
    if book.kinds == (2,):
        return [(0, 1), (1, 2), (2, 3), (3, 4)]
    if book.kinds == (3,):
        return [(1, 3), (2, 5)]
    return [(1, 2), (2, 3), (2, 4)]


def random_sum(numbers, book, size, width, most=3):
    return Sum(book.p, book.kinds, size, width, support.random_terms(numbers, book.p, book.kinds, size, width, most))


def show(book, one, other, answer):
    return shown(book.p, book.kinds, support.told_relations(book), support.told_terms(one), support.told_terms(other), answer)


def plain_number(p, x):
    return isinstance(x[1], int) and support.is_number(p, x)


def model_shown(book, one, other, answer):
    """What an answer shows for two sums of the program, told by the definition and the plain models."""
    p, (word, told) = book.p, answer
    parted = support.collected(p, list(support.as_dict(one).items()) + [(t, -w) for t, w in support.as_dict(other).items()])
    if word == "alike":
        pairs = []
        for x, placing in told:
            made = support.placed_by(book, placing) if isinstance(placing, tuple) else None
            if made is None or not support.is_number(p, x):
                return "none"
            if {(len(tree) - tree.count("."), tree.count(".")) for tree in made} != {(one.size, one.width)}:
                return "none"
            pairs.extend((tree, support.worth(p, x) * w) for tree, w in made.items())
        return "alike" if support.collected(p, pairs) == parted else "none"
    words = support.words_with(book.kinds, one.size, one.width)
    if word != "apart" or len(told) != len(words) or not all(plain_number(p, x) for x in told):
        return "none"
    row = {tree: support.worth(p, x) for tree, x in zip(words, told)}
    shapes = [(relation.size, relation.width) for relation in book.relations()]
    for placing in support.all_placings(book.kinds, shapes, one.size, one.width):
        if not is_zero(p, sum(w * row[tree] for tree, w in support.placed_by(book, placing).items())):
            return "none"
    return "none" if is_zero(p, sum(w * row[tree] for tree, w in parted.items())) else "apart"


def is_zero(p, w):
    return (w % p if p else w) == 0


def model_end(book, told, chain):
    """What a chain makes of a dict of numbers, or None if one of its placings is no step."""
    for placing in chain:
        made = support.placed_by(book, placing)
        head = made and max(made, key=lambda word: support.order_key(book.kinds, word))
        if made is None or head not in told:
            return None
        told = support.stepped(book, told, head, placing)
    return told


def lost_part(numbers, book, one):
    """A sum, and the same with something lost added to it."""
    more = one
    for placing in placings(book, one.size, one.width)[:40]:
        if numbers.below(3) == 0:
            more = more + placed(book, placing).scaled(support.not_zero(numbers, book.p))
    return more


class Answers(unittest.TestCase):
    def cases(self, seed, some=2):
        numbers = support.Numbers(seed)
        for book in books():
            for size, width in forms(book):
                for _ in range(some):
                    one = random_sum(numbers, book, size, width)
                    # Lists without terms tell no size, so they are left to a test of their own.
                    for other in (random_sum(numbers, book, size, width), lost_part(numbers, book, one)):
                        if one and other:
                            yield book, one, other

    def test_answers_of_the_other_modules(self):
        told = {"alike": 0, "apart": 0}
        for book, one, other in self.cases(61, 4):
            answer = decide(book, one, other)
            self.assertEqual(show(book, one, other, answer), answer[0])
            told[answer[0]] += 1
        self.assertGreater(min(told.values()), 50)

    def test_one_thing_changed(self):
        told = {"alike": 0, "apart": 0, "none": 0}
        for book, one, other in self.cases(62):
            answer = decide(book, one, other)
            step = 1 + len(str(answer)) // 100
            for changed in list(support.mutants(answer[1], "a."))[::step]:
                due = model_shown(book, one, other, (answer[0], changed))
                self.assertEqual(show(book, one, other, (answer[0], changed)), due)
                # No answer shows what another one disproves.
                self.assertIn(due, ("none", answer[0]))
                told[due] += 1
        self.assertGreater(told["none"], 1000)

    def test_other_words(self):
        for book, one, other in self.cases(63):
            word, told = decide(book, one, other)
            for wrong in ("", "none", "Alike", "alike ", {"alike": "apart", "apart": "alike"}[word]):
                self.assertEqual(show(book, one, other, (wrong, told)), "none")

    def test_other_sums(self):
        told = 0
        for book, one, other in self.cases(64):
            answer = decide(book, one, other)
            for left, right in ((other, one), (one, one), (one.scaled((1, 1)), other - one), (one + one, other)):
                if left and right:
                    due = model_shown(book, left, right, answer)
                    self.assertEqual(show(book, left, right, answer), due)
                    told += due == "none"
        self.assertGreater(told, 50)

    def test_more_of_papers(self):
        self.assertEqual(shown(0, (2,), RELATIONS, LEFT, RIGHT, PAPER), "alike")
        x, placing = PAPER[1][0]
        for pairs, due in (
            ([], "none"), ([(x, placing)] * 2, "none"), ([((1, 2), placing)] * 2, "alike"), ([((0, 1), placing), (x, placing)], "alike"),
            ([((3, 1), placing), ((-2, 1), placing)], "alike"), ([((2, 2), placing)], "none"), ([((1, 0), placing)], "none"),
            ([((-1, -1), placing)], "none"), ([((-1, 1), placing)], "none"),
            ([(x, placing), ((0, 1), (0, "a..", 0, (".",) * 3))], "none"), ([(x, placing), ((0, 1), (1, ".", 0, (".",) * 3))], "none"),
            ([(x, placing), ((0, 2), placing)], "none"),
        ):
            self.assertEqual(shown(0, (2,), RELATIONS, LEFT, RIGHT, ("alike", pairs)), due)

    def test_more_of_rows(self):
        ones = [(1, 1), (1, 1)]
        apart = [("aa...", (1, 1))], [("a.a..", (3, 2))]
        for row, due in (
            (ones, "apart"), ([(5, 3)] * 2, "apart"), ([(0, 1)] * 2, "none"), ([(1, 1), (2, 1)], "none"), ([(2, 2)] * 2, "none"),
            ([(1, 0)] * 2, "none"), (ones + ones, "none"), (ones[:1], "none"), ([], "none"),
        ):
            self.assertEqual(shown(0, (2,), RELATIONS, *apart, ("apart", row)), due)
            self.assertEqual(shown(0, (2,), RELATIONS, LEFT, RIGHT, ("apart", row)), "none")
        # The row stands in the order of the trees: the numbers of a.a.. and of aa...
        relations = [[("aa...", (2, 1)), ("a.a..", (1, 1))]]
        self.assertEqual(shown(0, (2,), relations, LEFT, RIGHT, ("apart", [(-2, 1), (1, 1)])), "apart")
        self.assertEqual(shown(0, (2,), relations, LEFT, RIGHT, ("apart", [(1, 1), (-2, 1)])), "none")
        # Without relations each row parts what it tells apart.
        self.assertEqual(shown(0, (2,), [], LEFT, RIGHT, ("apart", [(0, 1), (1, 1)])), "apart")
        self.assertEqual(shown(0, (2,), [], LEFT, LEFT, ("apart", [(0, 1), (1, 1)])), "none")

    def test_terms_in_any_order(self):
        zero = ("a.a..", (0, 1))
        for terms in (
            [("aa...", (1, 2)), ("aa...", (1, 2))], [zero, ("aa...", (1, 1))], [("aa...", (1, 1)), zero, zero],
            [("a.a..", (2, 1)), ("aa...", (3, 1)), ("a.a..", (-2, 1)), ("aa...", (-2, 1))],
        ):
            for answer, due in ((PAPER, "alike"), (("apart", [(1, 1)] * 2), "none")):
                self.assertEqual(shown(0, (2,), RELATIONS, terms, RIGHT, answer), due)
            self.assertEqual(shown(0, (2,), RELATIONS, terms, RIGHT * 2, ("apart", [(1, 1)] * 2)), "apart")
            self.assertEqual(shown(0, (2,), RELATIONS[:1], terms, RIGHT * 2, PAPER), "none")
        turned = [RELATIONS[0][::-1]]
        self.assertEqual(shown(0, (2,), turned, LEFT, RIGHT, PAPER), "alike")

    def test_lists_without_terms(self):
        above = (0, "a..", 0, (".",) * 3)
        for pairs, due in (
            ([], "alike"), ([((1, 1), PLACING), ((-1, 1), PLACING)], "alike"), ([((1, 1), PLACING)], "none"), ([((0, 1), above)], "alike"),
            ([((0, 1), above), ((0, 1), PLACING)], "none"), ([((0, 1), PLACING), ((0, 1), above)], "none"),
            ([((0, 1), (0, ".", 0, ("." * 2,) * 3))], "none"),
        ):
            self.assertEqual(shown(0, (2,), RELATIONS, [], [], ("alike", pairs)), due)
        for row in ([], [(1, 1)], [(1, 1)] * 2):
            self.assertEqual(shown(0, (2,), RELATIONS, [], [], ("apart", row)), "none")
        # One list without terms, and terms whose number is 0.
        loose = [("a.a..", (-1, 1)), ("aa...", (1, 1))]
        for terms, others in ((loose, []), (loose, [("aa...", (0, 1))]), ([], [("a.a..", (1, 1)), ("aa...", (-1, 1))])):
            self.assertEqual(shown(0, (2,), RELATIONS, terms, others, PAPER), "alike")
        self.assertEqual(shown(0, (2,), RELATIONS, LEFT, [], ("apart", [(1, 1)] * 2)), "apart")
        self.assertEqual(shown(0, (2,), RELATIONS, [("aa...", (0, 1))], [], ("alike", [((0, 1), above)])), "none")
        self.assertEqual(shown(0, (2,), RELATIONS, [("aa...", (0, 1))], [], ("apart", [(1, 1)] * 2)), "none")

    def test_too_many_trees(self):
        # 132 trees of six letters, 429 of seven.
        six, seven = "a" * 6 + "." * 7, "a" * 7 + "." * 8
        self.assertEqual(shown(0, (2,), RELATIONS, [(six, (1, 1))], [], ("apart", [(1, 1)] * 132)), "apart")
        for row in ([], [(1, 1)] * 429, [(1, 0)]):
            self.assertRaises(TooLarge, shown, 0, (2,), RELATIONS, [(seven, (1, 1))], [], ("apart", row))
            self.assertRaises(TooLarge, shown, 0, (2,), RELATIONS, [(seven, (0, 1))], [], ("apart", row))
        # 273 trees, and 324: no kinds have any number between these.
        five, three = "aaaaa...........", "aaa......."
        self.assertEqual(shown(0, (3,), [], [(five, (1, 1))], [], ("apart", [(1, 1)] * 273)), "apart")
        self.assertRaises(TooLarge, shown, 0, (3, 3, 3), [], [(three, (1, 1))], [], ("apart", [(1, 1)] * 324))
        # Papers have no such bound, and what is neither shows nothing.
        large = ((1, 1), (0, "aaaa.....", 0, (".", "a..", ".")))
        made = placed(read_book(EXAMPLE), large[1])
        self.assertEqual(shown(0, (2,), RELATIONS, made.terms(), [], ("alike", [large])), "alike")
        self.assertEqual(shown(0, (2,), RELATIONS, [(seven, (1, 1))], [], ("neither", [])), "none")

    def test_many_placings(self):
        # There are more placings of this size and width than the other modules take.
        book = read_book("0 2" + " ; 1 2 1 a.." * 8)
        relations = support.told_relations(book)
        word = "aaaa....."
        self.assertEqual(shown(0, (2,), relations, [(word, (1, 1))], [], ("alike", [((1, 1), (7, ".", 0, ("aaa....", ".")))])), "alike")
        self.assertEqual(shown(0, (2,), relations, [(word, (1, 1))], [], ("apart", [(1, 1)] * 14)), "none")


class Chains(unittest.TestCase):
    def chains(self, seed):
        """Books, sums, chains of any steps, and what these make."""
        numbers = support.Numbers(seed)
        for book in books():
            for size, width in forms(book):
                one = random_sum(numbers, book, size, width)
                left, chain = one, []
                while len(chain) < 4:
                    found = [placing for tree, _ in left.terms() for placing in standings(book, tree)]
                    if not found:
                        break
                    chain.append(found[numbers.below(len(found))])
                    left = step_down(book, left, chain[-1])
                yield book, one, chain, left

    def check(self, book, one, chain, end):
        return is_chain(book.p, book.kinds, support.told_relations(book), support.told_terms(one), chain, support.told_terms(end))

    def model(self, book, one, chain, end):
        return model_end(book, support.as_dict(one), chain) == support.as_dict(end)

    def test_right_chains(self):
        many = 0
        for book, one, chain, end in self.chains(65):
            self.assertIs(self.check(book, one, chain, end), True)
            many += len(chain)
            last, first_steps = down(book, one)
            self.assertIs(self.check(book, one, first_steps, last), True)
        self.assertGreater(many, 15)

    def test_one_thing_changed(self):
        told = {True: 0, False: 0}
        for book, one, chain, end in self.chains(66):
            step = 1 + len(str(chain)) // 60
            for changed in list(support.mutants(chain, "a."))[::step]:
                due = self.model(book, one, changed, end)
                self.assertIs(self.check(book, one, changed, end), due)
                told[due] += 1
            for other in (end + end, end - one, one):
                self.assertIs(self.check(book, one, chain, other), self.model(book, one, chain, other))
                self.assertIs(self.check(book, other, chain, end), self.model(book, other, chain, end))
        self.assertGreater(told[False], 100)

    def test_example(self):
        self.assertIs(is_chain(0, (2,), RELATIONS, LEFT, [PLACING], RIGHT), True)
        self.assertIs(is_chain(0, (2,), RELATIONS, LEFT, [], LEFT), True)
        self.assertIs(is_chain(0, (2,), RELATIONS, LEFT, [], RIGHT), False)
        self.assertIs(is_chain(0, (2,), RELATIONS, LEFT, [PLACING], LEFT), False)
        # The tree of the step is gone behind it.
        self.assertIs(is_chain(0, (2,), RELATIONS, LEFT, [PLACING, PLACING], RIGHT), False)
        # The head has to be a tree of the sum; another tree of what is placed is not enough.
        self.assertIs(is_chain(0, (2,), RELATIONS, RIGHT, [PLACING], LEFT), False)
        self.assertIs(is_chain(0, (2,), [RELATIONS[0][::-1]], LEFT, [PLACING], RIGHT), True)

    def test_lists_without_terms(self):
        zero = [("aa...", (0, 1))]
        for terms in ([], zero, [("aa...", (1, 1)), ("aa...", (-1, 1))]):
            for end in ([], zero, [("a.a..", (0, 1))]):
                self.assertIs(is_chain(0, (2,), RELATIONS, terms, [], end), True)
                self.assertIs(is_chain(0, (2,), RELATIONS, terms, [PLACING], end), False)
        relations = [[("aa...", (2, 1))]]
        self.assertIs(is_chain(0, (2,), relations, LEFT, [PLACING], []), True)

    def test_numbers_of_the_steps(self):
        relations = [[("aa...", (2, 1)), ("a.a..", (3, 1))]]
        self.assertIs(is_chain(0, (2,), relations, [("aa...", (5, 1))], [PLACING], [("a.a..", (-15, 2))]), True)
        self.assertIs(is_chain(7, (2,), relations, [("aa...", (5, 1))], [PLACING], [("a.a..", (3, 1))]), True)
        self.assertIs(is_chain(7, (2,), relations, [("aa...", (5, 1))], [PLACING], [("a.a..", (4, 1))]), False)

    def test_large_trees(self):
        # Nine letters, and fourteen dots; then ten, and fifteen.
        nine, wide = "a" * 9 + "." * 10, "bbbbbaaa" + "." * 14
        for word in (nine, wide):
            self.assertIs(is_chain(0, (2, 3), [], [(word, (1, 1))], [], [(word, (1, 1))]), True)
        for word in ("a" * 10 + "." * 11, "bbbbbaaaa" + "." * 15):
            self.assertRaises(NotSum, is_chain, 0, (2, 3), [], [(word, (1, 1))], [], [])

    def test_no_steps(self):
        for placing in (
            (-1, ".", 0, (".",) * 3), (1, ".", 0, (".",) * 3), (0, "", 0, (".",) * 3), (0, "..", 0, (".",) * 3), (0, ".", 1, (".",) * 3),
            (0, ".", -1, (".",) * 3), (0, ".", 0, (".",) * 2), (0, ".", 0, (".",) * 4), (0, ".", 0, ()), (0, ".", 0, (".", "", ".")),
            (0, "b..", 0, (".",) * 3), (0, ".", 10 ** 5000, (".",) * 3), (10 ** 5000, ".", 0, (".",) * 3),
            (0, "a" * 9 + "." * 10, 0, (".",) * 3), (0, "a" * 10 + "." * 11, 0, (".",) * 3),
        ):
            for chain in ([placing], [PLACING, placing], [placing, PLACING]):
                self.assertIs(is_chain(0, (2,), RELATIONS, LEFT, chain, RIGHT), False)
                self.assertIs(is_chain(0, (2,), RELATIONS, LEFT, chain, LEFT), False)


def chain_of(book, overlap):
    return down(book, difference(book, overlap))[1]


class Overlapping(unittest.TestCase):
    def accepted(self, book, overlap, chain):
        return comes_to_zero(book.p, book.kinds, support.told_relations(book), overlap, chain)

    def model(self, book, overlap, chain):
        tree, one, other = overlap
        if not support.stands_for_tree(book.kinds, tree) or overlap not in support.overlaps_among(book, [tree]):
            return False
        pairs = []
        for placing, sign in ((one, 1), (other, -1)):
            made = support.placed_by(book, placing)
            by = sign * support.inverse(book.p, made[tree])
            pairs.extend((word, by * w) for word, w in made.items())
        return model_end(book, support.collected(book.p, pairs), chain) == {}

    def test_overlaps_of_the_other_modules(self):
        told = {True: 0, False: 0}
        for book in books() + [support.book_of(text) for text, _ in COMPLETE]:
            for overlap in overlaps(book):
                chain = chain_of(book, overlap)
                due = not down(book, difference(book, overlap))[0]
                self.assertIs(self.accepted(book, overlap, chain), due)
                self.assertIs(self.model(book, overlap, chain), due)
                told[due] += 1
        self.assertGreater(min(told.values()), 5)

    def test_one_thing_changed(self):
        told = {True: 0, False: 0}
        for text, _ in COMPLETE:
            book = support.book_of(text)
            for overlap in overlaps(book)[:3]:
                chain = chain_of(book, overlap)
                for other in list(support.mutants(overlap, "a."))[::3]:
                    self.assertIs(self.accepted(book, other, chain), self.model(book, other, chain))
                for other in list(support.mutants(chain, "a."))[::5]:
                    due = self.model(book, overlap, other)
                    self.assertIs(self.accepted(book, overlap, other), due)
                    told[due] += 1
        self.assertGreater(told[False], 40)

    def test_no_overlaps(self):
        book = read_book("0 2 ; 2 3 1 aa... ; 2 3 1 aa... ; 3 4 1 aa..a..")
        good = overlaps(book)
        self.assertTrue(all(self.accepted(book, overlap, []) for overlap in good))
        for tree, one, other in good:
            self.assertIs(self.accepted(book, (tree, one, one), []), False)
            self.assertIs(self.accepted(book, (tree, other, other), []), False)
            # The one with the first letter at the first letter of the tree, or the lesser number, comes first.
            self.assertIs(self.accepted(book, (tree, other, one), []), False)
        # Larger than need be, and heads that have no letter in common.
        for overlap in (
            ("aaaa.....", (0, ".", 0, ("aa...", ".", ".")), (0, "a..", 0, ("a..", ".", "."))),
            ("aaaa.....", (0, ".", 0, ("aa...", ".", ".")), (0, "aa...", 0, (".", ".", "."))),
            ("aaa....", (0, ".", 0, ("a..", ".", ".")), (1, ".", 0, ("a..", ".", "."))),
        ):
            self.assertIs(self.accepted(book, overlap, []), False)
        self.assertIs(self.accepted(book, ("aa...", (0, ".", 0, (".",) * 3), (1, ".", 0, (".",) * 3)), []), True)
        self.assertIs(self.accepted(book, ("aa...", (1, ".", 0, (".",) * 3), (0, ".", 0, (".",) * 3)), []), False)

    def test_large_overlaps(self):
        # Overlaps of nine letters, and of ten; and one of seven letters with fifteen dots.
        book = read_book("0 2 ; 5 6 1 aaaaa......")
        found = overlaps(book)
        self.assertEqual(sorted(len(tree) for tree, _, _ in found), [13, 15, 17, 19])
        self.assertTrue(all(self.accepted(book, overlap, []) for overlap in found))
        six = read_book("0 2 ; 6 7 1 aaaaaa.......")
        self.assertEqual(len(overlaps(six)), 3)
        ten = ("a" * 10 + "." * 11, (0, ".", 0, ("aaaa.....",) + (".",) * 6), (0, "aaaa.....", 0, (".",) * 7))
        self.assertIs(self.accepted(six, ten, []), False)
        wide = read_book("0 3 ; 4 9 1 aaaa.........")
        self.assertEqual(sorted(tree.count("a") for tree, _, _ in overlaps(wide)), [5, 6])
        seven = ("a" * 7 + "." * 15, (0, ".", 0, ("aaa.......",) + (".",) * 8), (0, "aaa.......", 0, (".",) * 9))
        self.assertIs(self.accepted(wide, seven, []), False)


class Complete(unittest.TestCase):
    def papers(self, book):
        return [(overlap, chain_of(book, overlap)) for overlap in overlaps(book)]

    def shows(self, book, size, papers):
        return shows_complete(book.p, book.kinds, support.told_relations(book), size, papers)

    def test_complete_books(self):
        for text, most in COMPLETE:
            book = support.book_of(text)
            papers = self.papers(book)
            for size in range(1, most + 1):
                self.assertTrue(is_complete(book, size))
                small = [paper for paper in papers if len(paper[0][0].replace(".", "")) <= size]
                self.assertIs(self.shows(book, size, small), True)
                self.assertIs(self.shows(book, size, small[::-1] + small), True)
                self.assertIs(self.shows(book, size, papers), all(
                    comes_to_zero(book.p, book.kinds, support.told_relations(book), *paper) for paper in papers))
                for paper in small:
                    self.assertIs(self.shows(book, size, [other for other in small if other != paper]), False)
                    self.assertIs(self.shows(book, size, small + [(paper[0], paper[1] + [PLACING])]), False)
                    self.assertIs(self.shows(book, size, small + [(paper[0][:2] + paper[0][1:2], paper[1])]), False)

    def test_books_that_are_not(self):
        for text in ("0 2 ; 2 3 1 a.a.. 1 aa...", "0 2 ; 2 3 1 a.a.. 2 aa...", "0 22 ; 2 3 1 ab... 1 a.b.. ; 2 3 1 ab... ; 2 3 1 ba... 1 bb..."):
            book = support.book_of(text)
            papers = self.papers(book)
            self.assertFalse(is_complete(book, 3))
            self.assertIs(self.shows(book, 3, papers), False)
            good = [paper for paper in papers if comes_to_zero(book.p, book.kinds, support.told_relations(book), *paper)]
            self.assertIs(self.shows(book, 3, good), False)
            self.assertIs(self.shows(book, 1, good), True)

    def test_all_overlaps_up_to_the_size(self):
        book = read_book("0 2 ; 2 3 1 aa... ; 3 4 1 aa..a..")
        every = support.overlaps_among(book, support.words_up_to((2,), 5))
        for size in range(1, 7):
            due = [(overlap, []) for overlap in every if len(overlap[0].replace(".", "")) <= size]
            self.assertIs(self.shows(book, size, due), True)
            for paper in due:
                self.assertIs(self.shows(book, size, [other for other in due if other != paper]), False)

    def test_example(self):
        overlap = ("aaa....", (0, ".", 0, ("a..", ".", ".")), (0, "a..", 0, (".", ".", ".")))
        chain = [(0, ".", 0, (".", "a..", ".")), (0, ".", 0, (".", ".", "a..")), (0, "a..", 1, (".", ".", "."))]
        self.assertIs(comes_to_zero(0, (2,), RELATIONS, overlap, chain), True)
        self.assertIs(comes_to_zero(0, (2,), RELATIONS, overlap, chain[:2]), False)
        self.assertIs(comes_to_zero(0, (2,), RELATIONS, overlap, []), False)
        for size in range(1, 7):
            self.assertIs(shows_complete(0, (2,), RELATIONS, size, [(overlap, chain)]), True)
        self.assertIs(shows_complete(0, (2,), RELATIONS, 3, []), False)
        self.assertIs(shows_complete(0, (2,), RELATIONS, 2, []), True)
        self.assertIs(shows_complete(0, (2,), RELATIONS, 2, [(overlap, chain[:2])]), False)
        self.assertIs(shows_complete(0, (2,), [], 6, []), True)


class Errors(unittest.TestCase):
    overlap = ("aaa....", (0, ".", 0, ("a..", ".", ".")), (0, "a..", 0, (".", ".", ".")))

    def calls(self, p=0, kinds=(2,), relations=RELATIONS, terms=LEFT, others=RIGHT, size=3):
        """The functions with wrong arguments behind those that are told."""
        return [
            (shown, (p, kinds, relations, terms, others, ("apart", []))), (shown, (p, kinds, relations, terms, others, PAPER)),
            (is_chain, (p, kinds, relations, terms, [PLACING], others)),
            (comes_to_zero, (p, kinds, relations, self.overlap, [])), (shows_complete, (p, kinds, relations, size, [])),
        ]

    def assert_all(self, error, calls):
        for function, arguments in calls:
            self.assertRaises(error, function, *arguments)

    def test_fields_and_kinds(self):
        for p in support.WRONG_FIELDS:
            self.assert_all(BadNumber, self.calls(p, (), [[]], [("", (1, 0))], [], 0))
        for kinds in support.WRONG_KINDS:
            self.assert_all(NotKinds, self.calls(0, kinds, [[]], [("", (1, 0))], [], 0))

    def test_relations(self):
        good = RELATIONS[0]
        wrong = [
            [], [("", (1, 1))], [("aa..", (1, 1))], [("b..", (1, 1))], [("a..", (1, 1)), ("..", (1, 1))], [("A..", (1, 1))],
            good + good[:1], [("aa...", (1, 1)), ("aa...", (-1, 1))], [("aa...", (2, 2))], [("aa...", (1, 0))], [("aa...", (1, -1))],
            [("aa...", (1, 1)), ("a.a..", (0, 2))], [("aa...", (0, 1))], [("aa...", (1, 1)), ("a.a..", (0, 1))],
            [("aa...", (1, 1)), ("a..", (1, 1))], [("aa...", (1, 1)), ("aaa....", (1, 1))], [(".", (1, 1))],
            [("a" * 7 + "." * 8, (1, 1))], [("a" * 10 + "." * 11, (1, 1))],
        ]
        for relation in wrong:
            for relations in ([relation], [good, relation], [relation, good]):
                self.assert_all(NotBook, self.calls(0, (2,), relations, [("", (1, 0))], [], 0))
        # Trees of one size and several widths.
        self.assert_all(NotBook, self.calls(0, (2, 3), [[("aa...", (1, 1)), ("ab....", (1, 1))]], [("", (1, 0))], [], 0))
        for x in ((5, 1), (-1, 1), (1, 2)):
            self.assert_all(NotBook, self.calls(5, (2,), [[("aa...", x)]], [("", (1, 0))], [], 0))
        self.assert_all(NotBook, self.calls(0, (2,), [good] * 11, [("", (1, 0))], [], 0))
        for relations in ([good] * 10, [], [[("a" * 6 + "." * 7, (1, 1))]], [[("a..", (1, 1))]]):
            self.assertEqual(shown(0, (2,), relations, LEFT, LEFT, ("alike", [])), "alike")
            self.assertIs(is_chain(0, (2,), relations, LEFT, [], LEFT), True)

    def test_terms(self):
        wrong = [
            [("", (1, 1))], [("aa..", (1, 1))], [("b..", (1, 1))], [("aa...", (2, 4))], [("aa...", (1, 0))], [("aa...", (0, 2))],
            [("aa...", (1, 1)), ("a..", (1, 1))], [("aa...", (1, 1)), (".", (0, 1))], [("a" * 10 + "." * 11, (1, 1))],
            [("aa...", (1, 1)), ("aa...", (1, -1))],
        ]
        for terms in wrong:
            for one, other in ((terms, LEFT), (LEFT, terms), (terms, []), ([], terms), (terms, [("a..", (1, 1))]), ([("a..", (1, 1))], terms)):
                self.assert_all(NotSum, self.calls(0, (2,), RELATIONS, one, other)[:3])
        self.assert_all(NotSum, self.calls(0, (2, 3), [], [("aa...", (1, 1)), ("ab....", (1, 1))], [])[:3])
        self.assert_all(NotSum, self.calls(5, (2,), [], [("aa...", (5, 1))], [])[:3])

    def test_sums_that_differ(self):
        for one, other in (("aa...", "a.."), (".", "aa..."), ("aaa....", "aa...")):
            for x in ((1, 1), (0, 1)):
                self.assert_all(BadNumber, self.calls(0, (2,), RELATIONS, [(one, (1, 1))], [(other, x)])[:3])
                self.assert_all(BadNumber, self.calls(0, (2,), RELATIONS, [(one, x)], [(other, (1, 1))])[:3])
        self.assert_all(BadNumber, self.calls(0, (2, 3), [], [("aa...", (1, 1))], [("ab....", (1, 1))])[:3])
        # Ahead of the bound for rows.
        self.assertRaises(BadNumber, shown, 0, (2,), [], [("a" * 7 + "." * 8, (1, 1))], LEFT, ("apart", []))

    def test_sizes(self):
        for size in (0, -1, 7, 10 ** 5000):
            self.assertRaises(BadNumber, shows_complete, 0, (2,), RELATIONS, size, [])
            self.assertRaises(BadNumber, shows_complete, 0, (2,), [], size, [(self.overlap, [])])

    def test_arguments_stay(self):
        relations, terms, others = [list(RELATIONS[0])], LEFT * 2, RIGHT * 2
        chain, paper = [PLACING], [((2, 1), PLACING)]
        shown(0, (2,), relations, terms, others, ("alike", paper))
        shown(0, (2,), relations, terms, others, ("apart", [(1, 1)] * 2))
        is_chain(0, (2,), relations, terms, chain, others)
        shows_complete(0, (2,), relations, 3, [(self.overlap, chain)])
        self.assertEqual((relations, terms, others), (RELATIONS, LEFT * 2, RIGHT * 2))
        self.assertEqual((chain, paper), ([PLACING], [((2, 1), PLACING)]))


class Books(unittest.TestCase):
    def test_relations_of_several_sums(self):
        # What is placed with one relation alone, and with both.
        relations = [[("aa...", (1, 1))], [("a.a..", (1, 1)), ("aa...", (1, 1))]]
        paper = ("alike", [((-1, 1), PLACING), ((1, 1), (1,) + PLACING[1:])])
        self.assertEqual(shown(0, (2,), relations, RIGHT, [], paper), "alike")
        self.assertEqual(shown(0, (2,), relations[:1], RIGHT, [], paper), "none")
        self.assertEqual(shown(0, (2,), relations[:1], RIGHT, [], ("apart", [(1, 1), (0, 1)])), "apart")
        self.assertEqual(shown(0, (2,), relations, RIGHT, [], ("apart", [(1, 1), (0, 1)])), "none")
        self.assertEqual(len(Book(0, (2,), [read_sum("0 2 2 3 1 aa...")])), 1)
