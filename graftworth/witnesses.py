"""Checking worlds: whether they obey a book, and whether they part sums."""
from graftworth.check_books import ToldBook, told_difference
from graftworth.check_numbers import ONE, ZERO, added_in, is_number_of, multiplied, tells_field
from graftworth.check_trees import OPEN, SIGNS, parts_of, tells_kinds
from graftworth.errors import TooLarge

MOST_DIMENSION = 40
MOST_ROWS = 4096


def is_told_world(world):
    """Whether a tuple is a world."""
    p, kinds, dimension, tables = world
    if not tells_field(p) or not tells_kinds(kinds) or not 1 <= dimension <= MOST_DIMENSION:
        return False
    if len(tables) != len(kinds):
        return False
    for held, rows in zip(kinds, tables):
        if not _ascend([indexes for indexes, _ in rows]):
            return False
        if not all([_is_row(p, dimension, held, indexes, entries) for indexes, entries in rows]):
            return False
    return True


def _is_row(p, dimension, held, indexes, entries):
    """Whether indexes and entries are a row of a table of an operation with so many entrances."""
    told = [index for index, _ in entries]
    if len(indexes) != held or told == [] or not _ascend(told):
        return False
    if not all([0 <= index < dimension for index in list(indexes) + told]):
        return False
    return all([is_number_of(p, x) and x != ZERO for _, x in entries])


def _ascend(some):
    return all([some[at] < some[at + 1] for at in range(len(some) - 1)])


def obeys_told(p, kinds, relations, world):
    """Whether a tuple is a world in which each relation of a book has the value 0 at all vectors."""
    book = ToldBook(p, kinds, relations)
    if not is_told_world(world) or world[0] != p or world[1] != kinds:
        return False
    known = {}
    return all([_is_nothing(world, one, known) for one in book.ones])


def _is_nothing(world, one, known):
    """Whether a sum, a dict, has the value 0 at all unit vectors."""
    made = {}
    for tree, x in one.items():
        for indexes, numbers in _rows_of(world, tree, known).items():
            made[indexes] = added_in(world[0], made.get(indexes, {}), numbers, x)
    return all([numbers == {} for numbers in made.values()])


def _rows_of(world, tree, known):
    """The values of a tree that are not 0, as dicts, by the indexes of the unit vectors at its dots.

    What has been found for the parts of trees is kept in `known`, for this world.
    """
    p, kinds, dimension, tables = world
    if tree == OPEN:
        return {(index,): {index: ONE} for index in range(dimension)}
    if tree not in known:
        # All parts are asked for their rows, also where another one has none: each of them may have too many.
        hung = [_by_entry(_rows_of(world, part, known)) for part in parts_of(kinds, tree)]
        products = {indexes: dict(entries) for indexes, entries in tables[SIGNS.index(tree[0])]}
        known[tree] = {}
        _find_rows(p, products, hung, (), known[tree])
    return known[tree]


def _by_entry(rows):
    """The rows by each index at which they have a number, with this number."""
    found = {}
    for indexes, numbers in rows.items():
        for index, x in numbers.items():
            found.setdefault(index, []).append((indexes, x))
    return found


def _find_rows(p, products, hung, before, found):
    """Puts the rows that begin with some indexes into a dict.

    `hung` tells the rows of what hangs at the entrances that are left, `products` what unit vectors there make.
    """
    if hung == []:
        if products:
            found[before] = products[()]
        if len(found) > MOST_ROWS:
            raise TooLarge("the table has too many rows")
        return
    chosen = {}
    for indexes, numbers in products.items():
        for row, x in hung[0].get(indexes[0], []):
            left = chosen.setdefault(row, {})
            left[indexes[1:]] = added_in(p, left.get(indexes[1:], {}), numbers, x)
    for row, left in chosen.items():
        some = {indexes: numbers for indexes, numbers in left.items() if numbers != {}}
        _find_rows(p, some, hung[1:], before + row, found)


def parts_told(world, terms, others, vectors):
    """Whether a tuple is a world in which two sums have different values at some vectors."""
    if not is_told_world(world):
        return False
    p, kinds, dimension, _ = world
    numbers, form = told_difference(p, kinds, terms, others)
    if form is None or not _are_vectors(p, dimension, form[1], vectors):
        return False
    made = {}
    for tree, x in numbers.items():
        made = added_in(p, made, _value_of(world, tree, vectors), x)
    return made != {}


def _are_vectors(p, dimension, many, vectors):
    """Whether some lists are so many vectors of a world."""
    if len(vectors) != many or any([len(vector) != dimension for vector in vectors]):
        return False
    return all([is_number_of(p, x) for vector in vectors for x in vector])


def _value_of(world, tree, vectors):
    """The numbers of the value of a tree at vectors that are not 0, as a dict."""
    p, kinds, _, tables = world
    if tree == OPEN:
        return {index: x for index, x in enumerate(vectors[0]) if x != ZERO}
    values = []
    used = 0
    for part in parts_of(kinds, tree):
        many = part.count(OPEN)
        values.append(_value_of(world, part, vectors[used:used + many]))
        used += many
    made = {}
    for indexes, entries in tables[SIGNS.index(tree[0])]:
        x = ONE
        for index, numbers in zip(indexes, values):
            x = multiplied(p, x, numbers.get(index, ZERO))
        if x != ZERO:
            made = added_in(p, made, dict(entries), x)
    return made
