"""Which sums are alike in a book, and what shows it."""
from graftworth.books import check_few_placings, check_sum, combined, placed, placings
from graftworth.errors import BadNumber
from graftworth.linear import clash, echelon_rows, leading_column, solution
from graftworth.numbers import ZERO, is_number, minus, plus, times
from graftworth.sums import Sum, numbers_along
from graftworth.trees import listed

ALIKE = "alike"
APART = "apart"


def _check_sums(book, one, other):
    check_sum(book, one)
    check_sum(book, other)
    if one.size != other.size or one.width != other.width:
        raise BadNumber("the sums differ in size or in width")


def _lost_numbers(book, size, width):
    """The trees of a size and width, ascending, and for each placing the list of their numbers in what is placed."""
    # Ahead of making the trees, so that a refusal takes little time.
    check_few_placings(book, size, width)
    trees = listed(book.kinds, size, width)
    return trees, [numbers_along(placed(book, placing), trees) for placing in placings(book, size, width)]


def lost_form(book, size, width):
    """The trees of a size and width, descending, and the echelon form of all that is placed, by these trees.

    Its leading columns are those of the heads of lost sums, as the greatest tree comes first.
    """
    trees, lost = _lost_numbers(book, size, width)
    return trees[::-1], echelon_rows(book.p, [numbers[::-1] for numbers in lost])


def kept_by(form):
    """The list of the kept trees, ascending, by what `lost_form` tells."""
    trees, rows = form
    lost = [trees[leading_column(row)] for row in rows]
    return [tree for tree in reversed(trees) if tree not in lost]


def plain_by(form, one):
    """The plain sum of a sum, by what `lost_form` tells for its size and width."""
    trees, rows = form
    numbers = numbers_along(one, trees)
    for row in rows:
        x = numbers[leading_column(row)]
        if x != ZERO:
            numbers = [minus(one.p, y, times(one.p, x, z)) for y, z in zip(numbers, row)]
    return Sum(one.p, one.kinds, one.size, one.width, list(zip(trees, numbers)))


def kept_trees(book, size, width):
    """The list of the trees that are no head of a lost sum, ascending."""
    return kept_by(lost_form(book, size, width))


def dimension(book, size, width):
    """The number of the kept trees."""
    return len(kept_trees(book, size, width))


def plain(book, one):
    """The only sum of kept trees that is alike to a sum."""
    check_sum(book, one)
    return plain_by(lost_form(book, one.size, one.width), one)


def is_lost(book, one):
    """Whether a sum is lost."""
    return len(plain(book, one)) == 0


def are_alike(book, one, other):
    """Whether the difference of two sums is lost."""
    return is_lost(book, one - other)


def decide(book, one, other):
    """An answer for two sums: a paper that shows that they are alike, or a row that parts them."""
    _check_sums(book, one, other)
    trees, lost = _lost_numbers(book, one.size, one.width)
    matrix = [[numbers[index] for numbers in lost] for index in range(len(trees))]
    right = numbers_along(one - other, trees)
    many = solution(book.p, matrix, right)
    if many is None:
        return APART, clash(book.p, matrix, right)
    found = placings(book, one.size, one.width)
    return ALIKE, [(x, placing) for x, placing in zip(many, found) if x != ZERO]


def _products(p, numbers, row):
    """The sum of the products of the numbers of two lists."""
    total = ZERO
    for x, y in zip(numbers, row):
        total = plus(p, total, times(p, x, y))
    return total


def is_row(book, size, width, row):
    """Whether a list of pairs of integers is a row for a size and width."""
    trees, lost = _lost_numbers(book, size, width)
    return _is_row_for(book.p, lost, trees, row)


def _is_row_for(p, lost, trees, row):
    if len(row) != len(trees) or not all([is_number(p, x) for x in row]):
        return False
    return all([_products(p, numbers, row) == ZERO for numbers in lost])


def is_answer(book, one, other, answer):
    """Whether a paper or a row is an answer for two sums."""
    _check_sums(book, one, other)
    trees, lost = _lost_numbers(book, one.size, one.width)
    word, told = answer
    if word == ALIKE:
        return combined(book, one.size, one.width, told) == one - other
    if word != APART or not _is_row_for(book.p, lost, trees, told):
        return False
    return _products(book.p, numbers_along(one - other, trees), told) != ZERO
