"""Books and sums for the checker, as they are handed in to it, and what is placed."""
from graftworth.check_numbers import ONE, ZERO, added, added_in, divided, is_number_of, negative, tells_field
from graftworth.check_trees import OPEN, filled_in, form_of, is_tree_of, order_of, tells_kinds
from graftworth.errors import BadNumber, NotBook, NotKinds, NotSum

MOST_RELATIONS = 10
MOST_RELATION_LETTERS = 6


class ToldBook:
    """A book that was handed in and is one: the relations as dicts of numbers by trees, and their heads."""

    def __init__(self, p, kinds, relations):
        if not tells_field(p):
            raise BadNumber("the integer tells no field")
        if not tells_kinds(kinds):
            raise NotKinds("the tuple tells no kinds")
        if len(relations) > MOST_RELATIONS:
            raise NotBook("there are more than ten relations")
        for terms in relations:
            _check_relation(p, kinds, terms)
        self.p = p
        self.kinds = kinds
        self.ones = [dict(terms) for terms in relations]
        self.tops = [_head_of(kinds, one) for one in self.ones]


def _head_of(kinds, one):
    """The greatest tree of a sum that is not 0."""
    return max(list(one), key=lambda tree: order_of(kinds, tree))


def _check_relation(p, kinds, terms):
    if len(terms) == 0 or not _are_terms(p, kinds, terms):
        raise NotBook("a relation has no term, a wrong term, or trees of several sizes or widths")
    if len(set([tree for tree, _ in terms])) < len(terms) or any([x == ZERO for _, x in terms]):
        raise NotBook("a relation has a tree twice, or the number 0")
    if not 1 <= form_of(terms[0][0])[0] <= MOST_RELATION_LETTERS:
        raise NotBook("the size of a relation is not from 1 to 6")


def _are_terms(p, kinds, terms):
    """Whether terms are pairs of a tree and a number, the trees of one size and width."""
    if not all([is_tree_of(kinds, tree) and is_number_of(p, x) for tree, x in terms]):
        return False
    return len(set([form_of(tree) for tree, _ in terms])) <= 1


def told_difference(p, kinds, terms, others):
    """The numbers of the first one of two sums less the second one, and their size and width, or None."""
    one, other, form = told_sums(p, kinds, terms, others)
    return added_in(p, one, other, negative(p, ONE)), form


def told_sums(p, kinds, terms, others):
    """The numbers of two sums, as dicts, and their size and width, or None if both have no terms."""
    for told in (terms, others):
        if not _are_terms(p, kinds, told):
            raise NotSum("a list of terms is no sum")
    forms = [form_of(tree) for tree, _ in terms + others]
    if any([form != forms[0] for form in forms]):
        raise BadNumber("the sums differ in size or in width")
    return _collected(p, terms), _collected(p, others), forms[0] if forms else None


def _collected(p, terms):
    made = {}
    for tree, x in terms:
        made[tree] = added(p, made.get(tree, ZERO), x)
    return {tree: x for tree, x in made.items() if x != ZERO}


def _is_placing(book, placing):
    # Where a paper is due a row may be handed in, whose entries have an integer here.
    if not isinstance(placing, tuple):
        return False
    index, context, at, trees = placing
    if not 0 <= index < len(book.ones) or not is_tree_of(book.kinds, context):
        return False
    if not 0 <= at < context.count(OPEN) or len(trees) != book.tops[index].count(OPEN):
        return False
    return all([is_tree_of(book.kinds, tree) for tree in trees])


def placed_by(book, placing):
    """The head and the numbers of what a placing places, or None if it is no placing or its trees are too large."""
    if not _is_placing(book, placing):
        return None
    index, context, at, trees = placing
    parts = [OPEN] * context.count(OPEN)
    made = {}
    for tree, x in book.ones[index].items():
        parts[at] = filled_in(tree, trees)
        made[filled_in(context, parts)] = x
    parts[at] = filled_in(book.tops[index], trees)
    head = filled_in(context, parts)
    return (head, made) if is_tree_of(book.kinds, head) else None


def stepped_by(book, numbers, placing):
    """What a step makes of a sum, as dicts, or None if the placing is no step for it."""
    found = placed_by(book, placing)
    if found is None or found[0] not in numbers:
        return None
    head, lost = found
    return added_in(book.p, numbers, lost, negative(book.p, divided(book.p, numbers[head], lost[head])))
