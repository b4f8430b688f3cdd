"""Bracket texts of trees."""
from graftworth.errors import Malformed
from graftworth.grafting import top
from graftworth.trees import DOT, MOST_DOTS, MOST_LETTERS, check_kinds, check_tree, entrances


def bracket_text(kinds, tree):
    """The bracket text of a tree."""
    check_tree(kinds, tree)
    if tree == DOT:
        return tree
    letter, trees = top(kinds, tree)
    inner = ",".join([bracket_text(kinds, part) for part in trees])
    return f"{letter}({inner})"


def read_tree(kinds, text):
    """The tree with a bracket text; raises Malformed for other texts."""
    check_kinds(kinds)
    tree, end = _read(entrances(kinds), text, 0, "")
    if end < len(text):
        raise Malformed(end)
    return tree


def _read(held, text, at, before):
    """Reads one tree from an index on; `before` is what has been read so far, as letters and dots.

    Returns it with this tree behind it, and the index behind the tree's bracket text.
    """
    sign = text[at:at + 1]
    if sign not in held or not _has_room(held, before + sign):
        raise Malformed(at)
    tree = before + sign
    end = at + 1
    if sign == DOT:
        return tree, end
    for entrance in range(held[sign]):
        end = _behind(text, end, "(" if entrance == 0 else ",")
        tree, end = _read(held, text, end, tree)
    return tree, _behind(text, end, ")")


def _behind(text, at, due):
    """The index behind the character that is due at an index; behind the end of the text none stands."""
    if text[at:at + 1] != due:
        raise Malformed(at)
    return at + 1


def _has_room(held, signs):
    """Whether some tree that is not too large has at least these letters, however it goes on."""
    letters = [sign for sign in signs if sign != DOT]
    # Each entrance that is not filled by a further letter gets a dot, so this many dots cannot be avoided.
    dots = 1 + sum([held[letter] - 1 for letter in letters])
    return len(letters) <= MOST_LETTERS and dots <= MOST_DOTS
