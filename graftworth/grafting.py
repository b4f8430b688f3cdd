"""Grafting trees to the dots of trees, and taking trees apart."""
from graftworth.errors import BadNumber, NoAnswer, TooLarge
from graftworth.trees import DOT, check_tree, end_of, in_bounds


def bounded(tree):
    """A tree that has been made; raises TooLarge if it has too many letters or dots."""
    if not in_bounds(tree):
        raise TooLarge("the tree has too many letters or too many dots")
    return tree


def filled(tree, trees):
    """The text in which each dot has given its place to one of the trees, in order."""
    made = ""
    used = 0
    for sign in tree:
        if sign == DOT:
            made += trees[used]
            used += 1
        else:
            made += sign
    return made


def check_dot(tree, at):
    """Raises BadNumber if no dot of the tree has this number."""
    if not 0 <= at < tree.count(DOT):
        raise BadNumber("no dot has this number")


def cut_at_dot(tree, at):
    """What stands before the dot with a number in the text of a tree, and what stands behind it."""
    dots = [index for index, sign in enumerate(tree) if sign == DOT]
    return tree[:dots[at]], tree[dots[at] + 1:]


def side_by_side(kinds, text):
    """The list of the trees that stand one behind the other in a text."""
    found = []
    at = 0
    while at < len(text):
        end = end_of(kinds, text, at)
        found.append(text[at:end])
        at = end
    return found


def letter_places(tree):
    """The indexes of the letters in the text."""
    return [at for at, sign in enumerate(tree) if sign != DOT]


def letter_span(kinds, tree, letter):
    """Where the part at the letter with a number begins in the text, and where it ends."""
    begins = letter_places(tree)
    if not 0 <= letter < len(begins):
        raise BadNumber("no letter has this number")
    begin = begins[letter]
    return begin, end_of(kinds, tree, begin)


def graft(kinds, tree, at, other):
    """The tree in which another one is grafted to the dot with the number `at`."""
    check_tree(kinds, tree)
    check_tree(kinds, other)
    check_dot(tree, at)
    before, behind = cut_at_dot(tree, at)
    return bounded(before + other + behind)


def graft_all(kinds, tree, trees):
    """The tree in which the trees of a list are grafted to the dots, in order."""
    check_tree(kinds, tree)
    for other in trees:
        check_tree(kinds, other)
    if len(trees) != tree.count(DOT):
        raise BadNumber("there are not as many trees as dots")
    return bounded(filled(tree, trees))


def top(kinds, tree):
    """The first letter and the list of the trees at its entrances."""
    check_tree(kinds, tree)
    if tree == DOT:
        raise NoAnswer("the open entrance alone has no letter")
    return tree[0], side_by_side(kinds, tree[1:])


def part_at(kinds, tree, letter):
    """The part at the letter with a number."""
    check_tree(kinds, tree)
    begin, end = letter_span(kinds, tree, letter)
    return tree[begin:end]


def context_of(kinds, tree, letter):
    """What is left when a dot takes the place of the part at a letter, and the number of this dot."""
    check_tree(kinds, tree)
    begin, end = letter_span(kinds, tree, letter)
    return tree[:begin] + DOT + tree[end:], tree[:begin].count(DOT)


def mirrored(kinds, tree):
    """The tree with the trees at the entrances of each letter turned about."""
    check_tree(kinds, tree)
    if tree == DOT:
        return tree
    letter, trees = top(kinds, tree)
    return letter + "".join([mirrored(kinds, part) for part in reversed(trees)])
