"""Trees of operations, as texts.

A dot is an open entrance; a letter and, behind it, the trees at its entrances are an operation.
"""
from math import comb

from graftworth.errors import BadNumber, NotKinds, NotTree, TooLarge

DOT = "."
LETTERS = "abc"
MOST_LETTERS = 9
MOST_DOTS = 14
MOST_LISTED = 300


def is_kinds(kinds):
    """Whether a tuple of integers tells kinds."""
    return 1 <= len(kinds) <= len(LETTERS) and all([many in (2, 3) for many in kinds])


def check_kinds(kinds):
    """Raises NotKinds if a tuple of integers tells no kinds."""
    if not is_kinds(kinds):
        raise NotKinds("kinds are one to three integers, each 2 or 3")


def entrances(kinds):
    """A dict that tells how many trees follow each sign: none behind a dot."""
    held = dict(zip(LETTERS, kinds))
    held[DOT] = 0
    return held


def letters_in(text):
    """The number of letters in a text of letters and dots."""
    return len(text) - text.count(DOT)


def in_bounds(text):
    """Whether there are not too many letters and not too many dots in a text of letters and dots."""
    return text.count(DOT) <= MOST_DOTS and letters_in(text) <= MOST_LETTERS


def is_tree(kinds, tree):
    """Whether a string is a tree of the kinds, not too large."""
    check_kinds(kinds)
    if not in_bounds(tree):
        return False
    held = entrances(kinds)
    wanted = 1
    for sign in tree:
        if wanted == 0 or sign not in held:
            return False
        wanted += held[sign] - 1
    return wanted == 0


def check_tree(kinds, tree):
    """Raises NotTree if a string is no tree of the kinds."""
    if not is_tree(kinds, tree):
        raise NotTree("the text is no tree of these kinds")


def end_of(kinds, text, start):
    """The index in a text behind the tree that begins at an index."""
    held = entrances(kinds)
    wanted = 1
    at = start
    while wanted > 0:
        wanted += held[text[at]] - 1
        at += 1
    return at


def size(kinds, tree):
    """The number of letters."""
    check_tree(kinds, tree)
    return letters_in(tree)


def width(kinds, tree):
    """The number of dots."""
    check_tree(kinds, tree)
    return tree.count(DOT)


def paths(kinds, tree):
    """The paths of the dots, from the left."""
    check_tree(kinds, tree)
    held = entrances(kinds)
    found = []
    # The way down to each tree that is still wanted; the next one stands last.
    ways = [""]
    for sign in tree:
        way = ways.pop()
        if sign == DOT:
            found.append(way)
        ways.extend([way + sign] * held[sign])
    return found


def _path_number(path):
    """A number that is greater for the longer path and, of equally long ones, for the one with the later letter."""
    told = 1
    for letter in path:
        told = told * 4 + LETTERS.index(letter)
    return told


def order_key(kinds, tree):
    """What tells the order of trees of one size and width: it is less for the lesser tree."""
    return [_path_number(path) for path in paths(kinds, tree)]


def is_before(kinds, one, other):
    """Whether the first tree is less than the second one."""
    if size(kinds, one) != size(kinds, other) or width(kinds, one) != width(kinds, other):
        raise BadNumber("the trees differ in size or in width")
    return order_key(kinds, one) < order_key(kinds, other)


def check_size_and_width(size, width):
    """Raises BadNumber if no tree may have such a size or such a width."""
    if not 0 <= size <= MOST_LETTERS:
        raise BadNumber("the size is out of its range")
    if not 1 <= width <= MOST_DOTS:
        raise BadNumber("the width is out of its range")


def counted(kinds, size, width):
    """The number of trees with a size and a width."""
    check_kinds(kinds)
    check_size_and_width(size, width)
    return number_of_rows(kinds, 1, size, width)


def number_of_rows(kinds, wanted, letters, dots):
    """How many texts of so many trees, one behind the other, have so many letters and dots in all."""
    if wanted == 0:
        return 1 if letters == 0 and dots == 0 else 0
    # Turned about in a circle, an order of the signs begins such a text at just `wanted` of its signs.
    return wanted * orders_of_signs(kinds, wanted, letters, dots) // max(letters + dots, 1)


def orders_of_signs(kinds, wanted, letters, dots):
    """How many orders there are of the signs that so many trees, with so many letters and dots in all, may have."""
    # Each letter with two entrances makes one more dot, each one with three of them two more.
    threes = dots - wanted - letters
    twos = letters - threes
    if twos < 0 or threes < 0:
        return 0
    places = comb(letters + dots, letters) * comb(letters, threes)
    return places * _power(kinds.count(2), twos) * _power(kinds.count(3), threes)


def _power(base, exponent):
    made = 1
    for _ in range(exponent):
        made *= base
    return made


def rows_of_trees(kinds, wanted, letters, dots, known):
    """The texts that `number_of_rows` counts. What has been made is kept in `known`, for these kinds."""
    if number_of_rows(kinds, wanted, letters, dots) == 0:
        return []
    if wanted == 0:
        return [""]
    key = (wanted, letters, dots)
    if key not in known:
        found = [DOT + rest for rest in rows_of_trees(kinds, wanted - 1, letters, dots - 1, known)]
        for letter, held in zip(LETTERS, kinds):
            rests = rows_of_trees(kinds, wanted + held - 1, letters - 1, dots, known)
            found.extend([letter + rest for rest in rests])
        known[key] = found
    return known[key]


def listed(kinds, size, width):
    """The list of all trees with a size and a width, ascending."""
    if counted(kinds, size, width) > MOST_LISTED:
        raise TooLarge("there are too many trees of this size and width")
    found = rows_of_trees(kinds, 1, size, width, {})
    return sorted(found, key=lambda tree: order_key(kinds, tree))


def index_of(kinds, tree):
    """The index of a tree in the list for its size and its width."""
    return listed(kinds, size(kinds, tree), width(kinds, tree)).index(tree)


def tree_at(kinds, size, width, index):
    """The tree with an index in the list for a size and a width."""
    found = listed(kinds, size, width)
    if not 0 <= index < len(found):
        raise BadNumber("no tree has this index")
    return found[index]
