"""Patterns: where a tree stands in another one, what hangs at its dots, and what is put for it."""
from graftworth.errors import BadNumber
from graftworth.grafting import bounded, filled, letter_places, letter_span
from graftworth.trees import DOT, check_tree, end_of


def _check_pattern(pattern):
    if pattern == DOT:
        raise BadNumber("the open entrance alone is no pattern")


def _check_tree_and_pattern(kinds, tree, pattern):
    check_tree(kinds, tree)
    check_tree(kinds, pattern)
    _check_pattern(pattern)


def hanging_from(kinds, text, begin, pattern):
    """The trees that hang at the pattern's dots where it stands at an index of a text, or None if it does not."""
    found = []
    at = begin
    for sign in pattern:
        end = at + 1
        if sign == DOT:
            end = end_of(kinds, text, at)
            found.append(text[at:end])
        elif text[at] != sign:
            return None
        at = end
    return found


def _letters_of(kinds, tree, pattern):
    begins = letter_places(tree)
    return [letter for letter, at in enumerate(begins) if hanging_from(kinds, tree, at, pattern) is not None]


def places(kinds, tree, pattern):
    """The numbers of the letters at which a pattern stands, ascending."""
    _check_tree_and_pattern(kinds, tree, pattern)
    return _letters_of(kinds, tree, pattern)


def _standing(kinds, tree, pattern, letter):
    """Where the pattern's part begins and ends, and what hangs at its dots; BadNumber if it does not stand there."""
    begin, end = letter_span(kinds, tree, letter)
    trees = hanging_from(kinds, tree, begin, pattern)
    if trees is None:
        raise BadNumber("the pattern does not stand at this letter")
    return begin, end, trees


def hanging(kinds, tree, pattern, letter):
    """The trees that hang at the pattern's dots, where it stands at a letter."""
    _check_tree_and_pattern(kinds, tree, pattern)
    return _standing(kinds, tree, pattern, letter)[2]


def put_for(kinds, tree, pattern, letter, other):
    """The tree in which another one is put for the pattern that stands at a letter."""
    check_tree(kinds, tree)
    check_tree(kinds, pattern)
    check_tree(kinds, other)
    _check_pattern(pattern)
    begin, end, trees = _standing(kinds, tree, pattern, letter)
    if other.count(DOT) != pattern.count(DOT):
        raise BadNumber("the pattern and the other tree differ in width")
    return bounded(tree[:begin] + filled(other, trees) + tree[end:])


def avoids(kinds, tree, patterns):
    """Whether no pattern of a list stands in the tree."""
    check_tree(kinds, tree)
    for pattern in patterns:
        check_tree(kinds, pattern)
    for pattern in patterns:
        _check_pattern(pattern)
    return all([_letters_of(kinds, tree, pattern) == [] for pattern in patterns])
