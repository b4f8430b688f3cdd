"""Trees for the checker, which imports none of the other parts of the program."""

OPEN = "."
SIGNS = "abc"
MOST_LETTERS = 9
MOST_DOTS = 14


def tells_kinds(kinds):
    """Whether a tuple of integers tells kinds."""
    return 1 <= len(kinds) <= len(SIGNS) and all([held in (2, 3) for held in kinds])


def _entrances(kinds):
    """How many trees follow each sign."""
    held = dict(zip(SIGNS, kinds))
    held[OPEN] = 0
    return held


def form_of(tree):
    """The size and the width of a tree."""
    width = tree.count(OPEN)
    return len(tree) - width, width


def is_tree_of(kinds, text):
    """Whether a string is a tree of the kinds, not too large."""
    size, width = form_of(text)
    if size > MOST_LETTERS or width > MOST_DOTS:
        return False
    held = _entrances(kinds)
    return all([sign in held for sign in text]) and end_in(kinds, text, 0) == len(text)


def end_in(kinds, text, at):
    """The index behind the tree that begins at an index of a text, or None if it does not end in the text."""
    held = _entrances(kinds)
    wanted = 1
    while wanted > 0:
        if at == len(text):
            return None
        wanted += held[text[at]] - 1
        at += 1
    return at


def parts_of(kinds, tree):
    """The list of the trees at the entrances of the first letter."""
    found = []
    at = 1
    while at < len(tree):
        end = end_in(kinds, tree, at)
        found.append(tree[at:end])
        at = end
    return found


def order_of(kinds, tree):
    """What tells the order of trees of one size and width: for each dot the length of its path, and the path."""
    held = _entrances(kinds)
    found = []
    waiting = [""]
    for sign in tree:
        path = waiting.pop()
        if sign == OPEN:
            found.append((len(path), path))
        waiting.extend([path + sign] * held[sign])
    return found


def filled_in(tree, trees):
    """The tree with a tree in the place of each of its dots, in order."""
    pieces = tree.split(OPEN)
    return pieces[0] + "".join([other + piece for other, piece in zip(trees, pieces[1:])])


def hung_at(kinds, text, begin, pattern):
    """What hangs at the dots of a pattern that stands at an index of a tree, or None if it does not stand there."""
    found = []
    at = begin
    for sign in pattern:
        if sign == OPEN:
            end = end_in(kinds, text, at)
            found.append(text[at:end])
            at = end
        elif text[at] != sign:
            return None
        else:
            at += 1
    return tuple(found)


def rows_counted(kinds, wanted, size, width, known):
    """How many rows of so many trees have so many letters and dots in all; keeps in `known` what it has counted."""
    if wanted == 0:
        return 1 if (size, width) == (0, 0) else 0
    if size < 0 or width < wanted:
        return 0
    key = (wanted, size, width)
    if key not in known:
        many = rows_counted(kinds, wanted - 1, size, width - 1, known)
        for held in kinds:
            many += rows_counted(kinds, wanted - 1 + held, size - 1, width, known)
        known[key] = many
    return known[key]


def all_trees(kinds, size, width):
    """The list of all trees with a size and a width, in order."""
    found = _rows(kinds, 1, size, width, {})
    return sorted(found, key=lambda tree: order_of(kinds, tree))


def _rows(kinds, wanted, size, width, known):
    """The texts of the rows that `rows_counted` counts."""
    if rows_counted(kinds, wanted, size, width, known) == 0:
        return []
    if wanted == 0:
        return [""]
    found = [OPEN + rest for rest in _rows(kinds, wanted - 1, size, width - 1, known)]
    for sign, held in zip(SIGNS, kinds):
        found.extend([sign + rest for rest in _rows(kinds, wanted - 1 + held, size - 1, width, known)])
    return found
