"""Square books, whose relations have two letters and two entrances for each, their duals, and dimensions."""
from graftworth.alike import dimension, kept_trees
from graftworth.books import MOST_RELATIONS, Book
from graftworth.counts import avoiding_number
from graftworth.errors import BadNumber, TooLarge
from graftworth.linear import kernel
from graftworth.numbers import ZERO, minus, plus, times
from graftworth.overlaps import tidy_sums
from graftworth.patterns import avoids
from graftworth.series import put_into, turned_signs
from graftworth.sums import Sum, numbers_along
from graftworth.trees import DOT, listed

SIZE = 2
WIDTH = 3
MOST_DIMENSIONS = 5


def is_square(book):
    """Whether all operations of a book have two entrances and all of its relations the size 2."""
    return 3 not in book.kinds and all([relation.size == SIZE for relation in book.relations()])


def _check_square(book):
    if not is_square(book):
        raise BadNumber("the book is not square")


def _signed(p, tree, x):
    """The number of a tree with two letters, with the opposite sign if the tree is a right one."""
    # The second letter of a left tree stands directly behind the first one.
    return minus(p, ZERO, x) if tree[1] == DOT else x


def pairing(one, other):
    """The pairing of two sums of trees with two letters."""
    if one.p != other.p or one.kinds != other.kinds or 3 in one.kinds:
        raise BadNumber("the fields or the kinds differ, or an operation has three entrances")
    if one.size != SIZE or other.size != SIZE:
        raise BadNumber("a sum has another size than 2")
    terms = one.terms()
    total = ZERO
    for (tree, x), y in zip(terms, numbers_along(other, [tree for tree, _ in terms])):
        total = plus(one.p, total, times(one.p, _signed(one.p, tree, x), y))
    return total


def dual(book):
    """The dual book of a square book."""
    _check_square(book)
    trees = listed(book.kinds, SIZE, WIDTH)
    # The row of zeros asks for nothing: without relations the matrix would have no columns.
    matrix = [[ZERO] * len(trees)]
    for relation in book.relations():
        numbers = numbers_along(relation, trees)
        matrix.append([_signed(book.p, tree, x) for tree, x in zip(trees, numbers)])
    vectors = kernel(book.p, matrix)
    if len(vectors) > MOST_RELATIONS:
        raise TooLarge("the dual book would have too many relations")
    if vectors == []:
        return Book(book.p, book.kinds, [])
    ones = [Sum(book.p, book.kinds, SIZE, WIDTH, list(zip(trees, vector))) for vector in vectors]
    return Book(book.p, book.kinds, tidy_sums(ones))


def _barred(book):
    """The trees with two letters that stand in no linked tree: those that are no heads of lost sums."""
    _check_square(book)
    return kept_trees(book, SIZE, WIDTH)


def is_linked(book, tree):
    """Whether each tree with two letters that stands in a tree is the head of a lost sum."""
    return avoids(book.kinds, tree, _barred(book))


def linked_number(book, size):
    """The number of the linked trees of a size."""
    return avoiding_number(book.kinds, _barred(book), size, size + 1)


def dimensions(book, most):
    """The list of the numbers of kept trees of the widths 1, 2, .., `most`, of all sizes together."""
    if not 1 <= most <= MOST_DIMENSIONS:
        raise BadNumber("the number of widths is not from 1 to 5")
    # A tree has fewer letters than dots.
    return [sum([dimension(book, size, width) for size in range(width)]) for width in range(1, most + 1)]


def undo_one_another(one, other):
    """Whether the second series is x when the first one, with its signs turned, is put into it."""
    made = put_into(other, turned_signs(one))
    return made == [1] + [0] * (len(made) - 1)
