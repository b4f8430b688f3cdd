"""Counts of trees: by their widths, and of those that avoid patterns."""
from graftworth.errors import BadNumber, TooLarge
from graftworth.grafting import part_at, top
from graftworth.patterns import avoids, hanging_from
from graftworth.series import MOST_TERMS, undoing
from graftworth.trees import DOT, LETTERS, MOST_LETTERS, check_kinds, check_size_and_width, check_tree, letters_in
from graftworth.trees import listed, paths

MOST_PATTERNS = 30
MOST_PATTERN_LETTERS = 4
MOST_CROWNS = 60


def by_width(kinds, most):
    """The list of the numbers of all trees with 1, 2, .., `most` open entrances."""
    check_kinds(kinds)
    if not 1 <= most <= MOST_TERMS:
        raise BadNumber("the number of terms is not from 1 to 12")
    series = [1] + [0] * (most - 1)
    for held in kinds:
        if held <= most:
            series[held - 1] -= 1
    return undoing(series)


def depth(kinds, tree):
    """The greatest number of letters on the way down to a dot."""
    return max([len(path) for path in paths(kinds, tree)])


def crown(kinds, tree, most):
    """The tree that is left without the letters that have at least `most` letters above them."""
    check_tree(kinds, tree)
    if not 0 <= most <= MOST_LETTERS:
        raise BadNumber("the depth is not from 0 to 9")
    if most == 0 or tree == DOT:
        return DOT
    letter, trees = top(kinds, tree)
    return letter + "".join([crown(kinds, part, most - 1) for part in trees])


def _check_patterns(kinds, patterns):
    check_kinds(kinds)
    for pattern in patterns:
        check_tree(kinds, pattern)
    if len(patterns) > MOST_PATTERNS:
        raise BadNumber("there are more than 30 patterns")
    for pattern in patterns:
        if not 1 <= letters_in(pattern) <= MOST_PATTERN_LETTERS:
            raise BadNumber("a pattern has no letter or more than four")


def avoiding(kinds, patterns, size, width):
    """The list of the trees with a size and a width that avoid the patterns, ascending."""
    _check_patterns(kinds, patterns)
    return [tree for tree in listed(kinds, size, width) if avoids(kinds, tree, patterns)]


def avoiding_number(kinds, patterns, size, width):
    """The number of the trees with a size and a width that avoid the patterns."""
    _check_patterns(kinds, patterns)
    check_size_and_width(size, width)
    _check_crowns(kinds, patterns, size)
    return _number_with(_tables(kinds, patterns, size)[size], width)


def avoiding_by_width(kinds, patterns, most):
    """The list of the numbers of all trees with 1, 2, .., `most` open entrances that avoid the patterns."""
    _check_patterns(kinds, patterns)
    if not 1 <= most <= MOST_LETTERS + 1:
        raise BadNumber("the number of widths is not from 1 to 10")
    # A tree has fewer letters than dots.
    _check_crowns(kinds, patterns, most - 1)
    tables = _tables(kinds, patterns, most - 1)
    return [sum([_number_with(table, width) for table in tables]) for width in range(1, most + 1)]


def _number_with(table, width):
    return sum([many for (dots, _), many in table.items() if dots == width])


def _check_crowns(kinds, patterns, size):
    """Raises TooLarge if too many crowns are met up to a size.

    A crown of a tree that avoids the patterns is such a tree itself, not larger, and it is its own crown. So the crowns
    are the trees of their depth that avoid the patterns.
    """
    most = max([depth(kinds, pattern) for pattern in patterns], default=1) - 1
    met = [DOT]
    for _ in range(most):
        met = [DOT] + _one_letter_above(kinds, patterns, met, size)


def _one_letter_above(kinds, patterns, trees, size):
    """The trees up to a size that avoid the patterns, with a first letter and some of the trees at its entrances."""
    found = []
    for letter, held in zip(LETTERS, kinds):
        rows = [letter]
        for _ in range(held):
            rows = [row + tree for row in rows for tree in trees if letters_in(row + tree) <= size]
        for tree in rows:
            if all([hanging_from(kinds, tree, 0, pattern) is None for pattern in patterns]):
                found.append(tree)
            # The open entrance is a crown, too.
            if len(found) >= MOST_CROWNS:
                raise TooLarge("too many crowns are met")
    return found


def _tables(kinds, patterns, most):
    """For each size up to `most`, the numbers of the trees that avoid the patterns, by their widths and marks.

    The marks of a tree tell which parts of patterns stand at its first letter: each part has a bit. Trees with one
    crown have the same marks, but there may be fewer marks than crowns.
    """
    parts = _parts_of(kinds, patterns)
    needs = [_needs(kinds, parts, part) for part in parts]
    barred = _marks_of(parts, patterns)
    rows = _rows_without_trees(kinds, parts, most)
    tables = [{(1, 0): 1}]
    for letters in range(most):
        made = {}
        for letter, held in zip(LETTERS, kinds):
            for entrance in range(held):
                before = [rows[(letter, entrance, used)] for used in range(letters + 1)]
                rows[(letter, entrance + 1, letters)] = _one_more(needs, entrance, before, tables)
            for (dots, marks), many in rows[(letter, held, letters)].items():
                if marks & barred == 0:
                    made[(dots, marks)] = made.get((dots, marks), 0) + many
        tables.append(made)
    return tables


def _rows_without_trees(kinds, parts, most):
    """The numbers of rows of trees at the first entrances of an operation, as far as there are no entrances yet.

    They are told by the operation, the number of entrances, and the number of letters of the trees; for these, by the
    dots of the trees, and the marks of the parts that may still stand.
    """
    rows = {}
    for letter in LETTERS[:len(kinds)]:
        for letters in range(most):
            begun = _marks_of(parts, [part for part in parts if part[0] == letter])
            rows[(letter, 0, letters)] = {(0, begun): 1} if letters == 0 else {}
    return rows


def _parts_of(kinds, patterns):
    """The different parts of some patterns, themselves among them."""
    found = {}
    for pattern in patterns:
        for letter in range(letters_in(pattern)):
            found[part_at(kinds, pattern, letter)] = True
    return list(found)


def _marks_of(parts, some):
    """The marks of those parts that stand in a list."""
    return sum([1 << index for index, part in enumerate(parts) if part in some])


def _needs(kinds, parts, part):
    """For each entrance of a part's first letter the marks that a tree must have there for the part to stand."""
    return [_marks_of(parts, [tree]) for tree in top(kinds, part)[1]]


def _one_more(needs, entrance, before, tables):
    """The numbers of rows with a tree at one more entrance; `before` has those without it, by their letters."""
    made = {}
    letters = len(before) - 1
    for used in range(len(before)):
        for (wide, marks), many in tables[used].items():
            open_marks = _possible(needs, entrance, marks)
            for (dots, left), rows in before[letters - used].items():
                key = (dots + wide, left & open_marks)
                made[key] = made.get(key, 0) + many * rows
    return made


def _possible(needs, entrance, marks):
    """The marks of the parts that may stand if a tree with some marks is at an entrance of their first letter."""
    found = 0
    for index, need in enumerate(needs):
        if entrance < len(need) and need[entrance] & marks == need[entrance]:
            found += 1 << index
    return found
