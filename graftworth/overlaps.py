"""Overlaps of heads, and making books tidy and complete."""
from graftworth.books import MOST_RELATIONS, MOST_SIZE, Book, check_placing, placed
from graftworth.errors import BadNumber, TooLarge
from graftworth.grafting import context_of, cut_at_dot, part_at, top
from graftworth.linear import echelon_rows
from graftworth.numbers import ONE, over
from graftworth.steps import down, heads, lowered, standing_at
from graftworth.sums import Sum, numbers_along
from graftworth.trees import DOT, in_bounds, letters_in, order_key

MOST_OVERLAPS = 400


def _check_size(size):
    if not 1 <= size <= MOST_SIZE:
        raise BadNumber("the size is not from 1 to 6")


def _laid_over(kinds, one, other):
    """The least tree in which two trees stand at the first letter, or None if there is none."""
    if one == DOT:
        return other
    if other == DOT:
        return one
    letter, trees = top(kinds, one)
    other_letter, others = top(kinds, other)
    if letter != other_letter:
        return None
    parts = [_laid_over(kinds, part, against) for part, against in zip(trees, others)]
    if None in parts:
        return None
    return letter + "".join(parts)


def _overlap_at(kinds, tops, first, letter, second):
    """The overlap in which the second head begins at a letter of the first one, or None if there is none.

    The heads are told by their numbers in a list. There is none if its tree is too large.
    """
    if letter == 0 and first >= second:
        return None
    laid = _laid_over(kinds, part_at(kinds, tops[first], letter), tops[second])
    if laid is None:
        return None
    context, at = context_of(kinds, tops[first], letter)
    before, behind = cut_at_dot(context, at)
    tree = before + laid + behind
    if not in_bounds(tree):
        return None
    one = standing_at(kinds, tree, first, tops[first], 0)
    return tree, one, standing_at(kinds, tree, second, tops[second], letter)


def overlaps(book):
    """The list of all overlaps whose trees are not too large."""
    tops = heads(book)
    found = []
    for first, head in enumerate(tops):
        for letter in range(letters_in(head)):
            for second in range(len(tops)):
                overlap = _overlap_at(book.kinds, tops, first, letter, second)
                if overlap is not None:
                    found.append(overlap)
    if len(found) > MOST_OVERLAPS:
        raise TooLarge("there are too many overlaps")
    return found


def difference(book, overlap):
    """The difference of an overlap."""
    tree, one, other = overlap
    check_placing(book, one)
    check_placing(book, other)
    if not _is_overlap(book, tree, one, other):
        raise BadNumber("the placings are not those of an overlap with this tree")
    return _difference_of(book, tree, one, other)


def _is_overlap(book, tree, one, other):
    tops = heads(book)
    before, _ = cut_at_dot(other[1], other[2])
    letter = letters_in(before)
    if letter >= letters_in(tops[one[0]]):
        return False
    return _overlap_at(book.kinds, tops, one[0], letter, other[0]) == (tree, one, other)


def _difference_of(book, tree, one, other):
    less = placed(book, other)
    made = placed(book, one)
    made = made.scaled(over(book.p, ONE, made.at(tree)))
    return made - less.scaled(over(book.p, ONE, less.at(tree)))


def first_clash(book, size):
    """An overlap of the least size, up to a size, whose difference does not go down to 0, or None."""
    _check_size(size)
    found = [overlap for overlap in overlaps(book) if letters_in(overlap[0]) <= size]
    for tree, one, other in sorted(found, key=lambda overlap: letters_in(overlap[0])):
        end, _ = down(book, _difference_of(book, tree, one, other))
        if end:
            return tree, one, other
    return None


def is_complete(book, size):
    """Whether the book is complete to a size."""
    return first_clash(book, size) is None


def tidied(book):
    """A tidy book in which the same sums are lost."""
    made = Book(book.p, book.kinds, [])
    for size in range(1, MOST_SIZE + 1):
        made = _grown(made, _lowered_relations(made, book, size))
    return made


def _lowered_relations(made, book, size):
    """What the relations of one size of a book go down to in another one."""
    return [lowered(made, relation) for relation in book.relations() if relation.size == size]


def _grown(book, ends):
    """A tidy book with further lost sums of one size, greater than its relations', whose trees are low in it."""
    relations = book.relations()
    for width in sorted(set([end.width for end in ends])):
        relations.extend(tidy_sums([end for end in ends if end.width == width]))
    if len(relations) > MOST_RELATIONS:
        raise TooLarge("the book would have too many relations")
    return Book(book.p, book.kinds, relations)


def tidy_sums(ends):
    """Sums with the same sums of multiples as some of one form, by their heads; each head has the number 1.

    No head is a tree of another one of them.
    """
    first = ends[0]
    every = {tree: True for end in ends for tree, _ in end.terms()}
    trees = sorted(list(every), key=lambda tree: order_key(first.kinds, tree), reverse=True)
    form = echelon_rows(first.p, [numbers_along(end, trees) for end in ends])
    made = [Sum(first.p, first.kinds, first.size, first.width, list(zip(trees, row))) for row in form]
    return made[::-1]


def completed(book, size):
    """The tidy book, complete to a size, with relations up to it, in which the same sums are lost."""
    _check_size(size)
    if any([relation.size > size for relation in book.relations()]):
        raise BadNumber("a relation has a greater size")
    made = Book(book.p, book.kinds, [])
    for stage in range(1, size + 1):
        # Differences of overlaps of a size are lost sums of this size, so the lesser relations stay as they are.
        ends = [down(made, lost)[0] for lost in _differences(made, stage)]
        made = _grown(made, ends + _lowered_relations(made, book, stage))
    # The book may have more overlaps than it can be shown complete with.
    overlaps(made)
    return made


def _differences(book, size):
    """The differences of the overlaps of one size."""
    found = [overlap for overlap in overlaps(book) if letters_in(overlap[0]) == size]
    return [_difference_of(book, tree, one, other) for tree, one, other in found]
