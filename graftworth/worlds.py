"""Worlds: tables that tell the products of unit vectors, and with them a value for each tree."""
from graftworth.alike import kept_by, lost_form, plain_by
from graftworth.books import check_sum
from graftworth.errors import BadNumber, NotWorld, TooLarge
from graftworth.grafting import top
from graftworth.numbers import ONE, ZERO, check_number, is_field, is_number, plus, times
from graftworth.sums import Sum
from graftworth.trees import DOT, LETTERS, check_tree, entrances, is_kinds, letters_in

MOST_DIMENSION = 40
MOST_ROWS = 4096
MOST_WIDTH = 5


def is_world(world):
    """Whether a tuple is a world."""
    p, kinds, dimension, tables = world
    if not is_field(p) or not is_kinds(kinds) or not 1 <= dimension <= MOST_DIMENSION:
        return False
    if len(tables) != len(kinds):
        return False
    return all([_is_table(p, dimension, held, rows) for held, rows in zip(kinds, tables)])


def _is_table(p, dimension, held, rows):
    """Whether some rows are a table of an operation with so many entrances."""
    for indexes, entries in rows:
        if len(indexes) != held or not _are_indexes(dimension, indexes):
            return False
        if not _are_entries(p, dimension, entries):
            return False
    return _ascend([indexes for indexes, _ in rows])


def _are_indexes(dimension, indexes):
    return all([0 <= index < dimension for index in indexes])


def _are_entries(p, dimension, entries):
    indexes = [index for index, _ in entries]
    if indexes == [] or not _are_indexes(dimension, indexes) or not _ascend(indexes):
        return False
    return all([is_number(p, x) and x != ZERO for _, x in entries])


def _ascend(some):
    """Whether each of some things is less than the next one."""
    return all([one < other for one, other in zip(some, some[1:])])


def check_world(world):
    """Raises NotWorld if a tuple is no world."""
    if not is_world(world):
        raise NotWorld("the tuple is no world")


def unit(world, index):
    """The unit vector with an index."""
    check_world(world)
    dimension = world[2]
    if not 0 <= index < dimension:
        raise BadNumber("no unit vector has this index")
    return [ONE if at == index else ZERO for at in range(dimension)]


def value(world, tree, vectors):
    """The value of a tree at vectors, one for each dot."""
    check_world(world)
    check_tree(world[1], tree)
    _check_vectors(world, tree.count(DOT), vectors)
    return _as_list(world, _value_at(world, tree, _without_zeros(vectors)))


def sum_value(world, one, vectors):
    """The value of a sum at vectors."""
    check_world(world)
    if one.p != world[0] or one.kinds != world[1]:
        raise BadNumber("the sum has another field or other kinds than the world")
    _check_vectors(world, one.width, vectors)
    held = _without_zeros(vectors)
    made = {}
    for tree, x in one.terms():
        _add_in(world[0], made, _value_at(world, tree, held), x)
    return _as_list(world, made)


def _check_vectors(world, many, vectors):
    for vector in vectors:
        for x in vector:
            check_number(world[0], x)
    if len(vectors) != many:
        raise BadNumber("there are not as many vectors as dots")
    for vector in vectors:
        if len(vector) != world[2]:
            raise BadNumber("a vector has not as many numbers as the world has dimensions")


def _without_zeros(vectors):
    """Vectors as dicts of their numbers that are not 0, by their indexes."""
    return [{index: x for index, x in enumerate(vector) if x != ZERO} for vector in vectors]


def _as_list(world, numbers):
    return [numbers.get(index, ZERO) for index in range(world[2])]


def _value_at(world, tree, vectors):
    """The value of a tree, as a dict, at vectors, which are dicts, too."""
    p, kinds, _, tables = world
    held = entrances(kinds)
    left = list(vectors)
    # Read from the right, the values of the trees at the entrances of a letter are there before the letter.
    values = []
    for sign in reversed(tree):
        if sign == DOT:
            values.append(left.pop())
        else:
            parts = [values.pop() for _ in range(held[sign])]
            values.append(_product(p, tables[LETTERS.index(sign)], parts))
    return values[0]


def _product(p, rows, vectors):
    """The product of vectors by an operation with a table."""
    made = {}
    for indexes, entries in rows:
        chosen = [vector.get(index, ZERO) for index, vector in zip(indexes, vectors)]
        if ZERO not in chosen:
            x = ONE
            for y in chosen:
                x = times(p, x, y)
            _add_in(p, made, dict(entries), x)
    return made


def _add_in(p, made, numbers, x):
    """Adds the numbers of a dict, multiplied by a number, to those of another one, which it changes."""
    for index, y in numbers.items():
        made[index] = plus(p, made.get(index, ZERO), times(p, x, y))


def table(world, tree):
    """The table of a tree: a list of rows."""
    check_world(world)
    check_tree(world[1], tree)
    rows = _table_of(world, tree, {})
    return [(indexes, tuple(sorted(rows[indexes].items()))) for indexes in sorted(rows)]


def _table_of(world, tree, known):
    """The table of a tree as a dict of dicts. What has been made for parts is kept in `known`, for this world."""
    if tree == DOT:
        return {(index,): {index: ONE} for index in range(world[2])}
    if tree not in known:
        letter, parts = top(world[1], tree)
        columns = [_by_entries(_table_of(world, part, known)) for part in parts]
        products = {indexes: dict(entries) for indexes, entries in world[3][LETTERS.index(letter)]}
        made = {}
        _put_rows(world[0], products, columns, (), made)
        known[tree] = made
    return known[tree]


def _by_entries(rows):
    """The numbers of a table by the indexes of their entries: for each, pairs of the indexes of a row and a number."""
    found = {}
    for indexes, numbers in rows.items():
        for index, x in numbers.items():
            found.setdefault(index, []).append((indexes, x))
    return found


def _put_rows(p, products, columns, before, made):
    """Puts those rows of a tree's table into a dict whose indexes begin with some that are chosen already.

    `products` tells the products by the indexes of the entrances that are left, `columns` what stands at these.
    """
    if not columns:
        numbers = {index: x for index, x in products[()].items() if x != ZERO}
        if numbers:
            made[before] = numbers
        if len(made) > MOST_ROWS:
            raise TooLarge("the table has too many rows")
        return
    for indexes, rests in _narrowed(p, products, columns[0]).items():
        _put_rows(p, rests, columns[1:], before + indexes, made)


def _narrowed(p, products, column):
    """For the rows of the table of what stands at the first entrance, the products that are left for the others."""
    found = {}
    for indexes, numbers in products.items():
        for chosen, x in column.get(indexes[0], []):
            rests = found.setdefault(chosen, {})
            _add_in(p, rests.setdefault(indexes[1:], {}), numbers, x)
    return found


def obeys(world, book):
    """Whether each relation of a book has the value 0 at all vectors."""
    check_world(world)
    if book.p != world[0] or book.kinds != world[1]:
        raise BadNumber("the book has another field or other kinds than the world")
    known = {}
    return all([_is_nothing(world, relation, known) for relation in book.relations()])


def _is_nothing(world, one, known):
    """Whether a sum has the value 0 at all unit vectors."""
    made = {}
    for tree, x in one.terms():
        for indexes, numbers in _table_of(world, tree, known).items():
            _add_in(world[0], made.setdefault(indexes, {}), numbers, x)
    return all([x == ZERO for numbers in made.values() for x in numbers.values()])


def names(book, width):
    """The list of the names of the told world of a book and a width."""
    return _names_by(_forms(book, width), width)


def _forms(book, width):
    """What `lost_form` tells for the sizes and the widths of trees up to a width, by size and width."""
    if not 1 <= width <= MOST_WIDTH:
        raise BadNumber("the width is not from 1 to 5")
    found = {}
    dimension = 0
    for wide in range(1, width + 1):
        # A tree has fewer letters than dots.
        for size in range(wide):
            found[(size, wide)] = lost_form(book, size, wide)
            dimension += (width + 1 - wide) * len(kept_by(found[(size, wide)]))
            if dimension > MOST_DIMENSION:
                raise TooLarge("the told world has too many dimensions")
    return found


def _names_by(forms, width):
    found = []
    for wide in range(1, width + 1):
        trees = [tree for size in range(wide) for tree in kept_by(forms[(size, wide)])]
        found.extend([(begin, begin + wide, tree) for begin in range(width + 1 - wide) for tree in trees])
    return found


def told_world(book, width):
    """The told world of a book and a width."""
    forms = _forms(book, width)
    found = _names_by(forms, width)
    tables = []
    for letter, held in zip(LETTERS, book.kinds):
        tables.append(_told_table(book, forms, found, letter, held))
    return book.p, book.kinds, len(found), tuple(tables)


def _told_table(book, forms, found, letter, held):
    """The table of an operation in the told world whose names are found."""
    places = {name: index for index, name in enumerate(found)}
    known = {}
    rows = []
    for row in _side_by_side(found, held):
        tree = letter + "".join([part for _, _, part in row])
        if tree not in known:
            known[tree] = _plain_terms(book, forms, tree)
        begin = row[0][0]
        end = row[-1][1]
        if known[tree]:
            entries = [(places[(begin, end, kept)], x) for kept, x in known[tree]]
            rows.append((tuple([places[name] for name in row]), tuple(entries)))
    return tuple(sorted(rows))


def _side_by_side(found, many):
    """The rows of so many names in which each but the first one begins where the one before ends."""
    rows = [[name] for name in found]
    for _ in range(many - 1):
        rows = [row + [name] for row in rows for name in found if name[0] == row[-1][1]]
    return rows


def _plain_terms(book, forms, tree):
    """The terms of the plain sum of a tree alone."""
    size = letters_in(tree)
    width = tree.count(DOT)
    return plain_by(forms[(size, width)], Sum(book.p, book.kinds, size, width, [(tree, ONE)])).terms()


def told_value(book, one):
    """The value of a sum at the first unit vectors of the told world of its width."""
    check_sum(book, one)
    world = told_world(book, one.width)
    return sum_value(world, one, [unit(world, index) for index in range(one.width)])
