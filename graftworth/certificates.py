"""Checking papers and rows, chains of steps, and overlaps, without any search for them."""
from graftworth.check_books import ToldBook, placed_by, stepped_by, told_difference, told_sums
from graftworth.check_numbers import ONE, ZERO, added, added_in, divided, is_number_of, multiplied, negative
from graftworth.check_trees import OPEN, all_trees, end_in, filled_in, form_of, hung_at, is_tree_of, rows_counted
from graftworth.errors import BadNumber, TooLarge

ALIKE = "alike"
APART = "apart"
NONE = "none"
MOST_TREES = 300
MOST_SIZE = 6


def shown(p, kinds, relations, terms, others, answer):
    """What an answer shows for two sums: that they are alike, that they are apart, or nothing."""
    book = ToldBook(p, kinds, relations)
    numbers, form = told_difference(p, kinds, terms, others)
    word, told = answer
    if word == ALIKE and _is_paper(book, numbers, form, told):
        return ALIKE
    if word == APART and form is not None and _is_parting(book, numbers, form, told):
        return APART
    return NONE


def _is_paper(book, numbers, form, pairs):
    """Whether what is placed, multiplied, adds up to some numbers, all of it of one size and width."""
    made = {}
    for x, placing in pairs:
        found = placed_by(book, placing)
        if found is None or not is_number_of(book.p, x):
            return False
        head, lost = found
        if form is None:
            form = form_of(head)
        if form_of(head) != form:
            return False
        made = added_in(book.p, made, lost, x)
    return made == numbers


def _is_parting(book, numbers, form, row):
    """Whether a row of numbers makes 0 with all that is placed, and not with some numbers."""
    size, width = form
    if rows_counted(book.kinds, 1, size, width, {}) > MOST_TREES:
        raise TooLarge("there are too many trees of this size and width")
    trees = all_trees(book.kinds, size, width)
    if len(row) != len(trees) or not all([is_number_of(book.p, x) for x in row]):
        return False
    told = dict(zip(trees, row))
    if _made_with(book.p, numbers, told) == ZERO:
        return False
    lost = [made for tree in trees for made in _placed_from(book, tree)]
    return all([_made_with(book.p, made, told) == ZERO for made in lost])


def _made_with(p, numbers, told):
    """The sum of the products of the numbers of a sum with those that are told for its trees."""
    total = ZERO
    for tree, x in numbers.items():
        total = added(p, total, multiplied(p, x, told[tree]))
    return total


def _placed_from(book, tree):
    """All that is placed by placings that make a tree of the head of their relation."""
    found = []
    for top, one in zip(book.tops, book.ones):
        for begin in _begins(tree):
            trees = hung_at(book.kinds, tree, begin, top)
            if trees is not None:
                end = end_in(book.kinds, tree, begin)
                found.append({tree[:begin] + filled_in(other, trees) + tree[end:]: x for other, x in one.items()})
    return found


def _begins(tree):
    """The indexes of the letters of a tree."""
    return [at for at, sign in enumerate(tree) if sign != OPEN]


def is_chain(p, kinds, relations, terms, chain, end):
    """Whether a chain of steps leads from a sum to another one."""
    book = ToldBook(p, kinds, relations)
    numbers, others, _ = told_sums(p, kinds, terms, end)
    return _leads(book, numbers, chain, others)


def _leads(book, numbers, chain, end):
    """Whether a chain of steps leads from a sum to another one, as dicts."""
    for placing in chain:
        numbers = stepped_by(book, numbers, placing)
        if numbers is None:
            return False
    return numbers == end


def comes_to_zero(p, kinds, relations, overlap, chain):
    """Whether a chain leads from the difference of an overlap to 0."""
    book = ToldBook(p, kinds, relations)
    return _is_accepted(book, _all_overlaps(book), overlap, chain)


def shows_complete(p, kinds, relations, size, papers):
    """Whether overlaps with chains show that a book is complete to a size."""
    book = ToldBook(p, kinds, relations)
    if not 1 <= size <= MOST_SIZE:
        raise BadNumber("the size is not from 1 to 6")
    found = _all_overlaps(book)
    if not all([_is_accepted(book, found, overlap, chain) for overlap, chain in papers]):
        return False
    told = [overlap for overlap, _ in papers]
    return all([overlap in told for overlap in found if form_of(overlap[0])[0] <= size])


def _is_accepted(book, found, overlap, chain):
    """Whether an overlap is among those of the book, and a chain leads from its difference to 0."""
    if overlap not in found:
        return False
    numbers = {}
    for placing, sign in zip(overlap[1:], (ONE, negative(book.p, ONE))):
        head, lost = placed_by(book, placing)
        numbers = added_in(book.p, numbers, lost, divided(book.p, sign, lost[head]))
    return _leads(book, numbers, chain, {})


def _all_overlaps(book):
    """All overlaps of a book whose trees are not too large."""
    many = len(book.tops)
    found = []
    for first in range(many):
        for begin in _begins(book.tops[first]):
            for second in range(many):
                # Two heads that begin at the same letter make one overlap, told by the lesser number first.
                if begin > 0 or first < second:
                    found.extend(_overlaps_at(book, first, begin, second))
    return found


def _overlaps_at(book, first, begin, second):
    """The overlap in which the second head stands at an index of the first one, alone in a list, or no overlap."""
    kinds = book.kinds
    top = book.tops[first]
    end = end_in(kinds, top, begin)
    laid = _laid_over(kinds, top[begin:end], book.tops[second])
    if laid is None:
        return []
    tree = top[:begin] + laid + top[end:]
    if not is_tree_of(kinds, tree):
        return []
    context = top[:begin] + OPEN + top[end:]
    one = (first, OPEN, 0, hung_at(kinds, tree, 0, top))
    other = (second, context, top[:begin].count(OPEN), hung_at(kinds, laid, 0, book.tops[second]))
    return [(tree, one, other)]


def _laid_over(kinds, one, other):
    """The least tree in which two trees stand at the first letter, or None if there is none."""
    made = ""
    at = 0
    beside = 0
    while at < len(one):
        end = at + 1
        behind = beside + 1
        if one[at] == OPEN:
            behind = end_in(kinds, other, beside)
        elif other[beside] == OPEN:
            end = end_in(kinds, one, at)
        elif one[at] != other[beside]:
            return None
        # Where one of both has a dot, the other one's part is the longer text; else both are the same letter.
        made += max(one[at:end], other[beside:behind], key=len)
        at = end
        beside = behind
    return made
