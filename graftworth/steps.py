"""Going down by the heads of relations."""
from heapq import heappop, heappush

from graftworth.books import check_sum, placed
from graftworth.errors import BadNumber, TooLarge
from graftworth.grafting import context_of
from graftworth.numbers import ZERO, over
from graftworth.patterns import avoids, hanging, places
from graftworth.trees import check_tree, listed, order_key

MOST_STEPS = 1000


def heads(book):
    """The list of the heads, in the order of the relations."""
    return [relation.head()[0] for relation in book.relations()]


def standing_at(kinds, tree, index, head, letter):
    """The placing of the relation with a number whose head stands in a tree at a letter."""
    context, at = context_of(kinds, tree, letter)
    return index, context, at, tuple(hanging(kinds, tree, head, letter))


def _standings_of(kinds, tree, tops):
    """The placings whose head is a tree, for a list of heads."""
    return [
        standing_at(kinds, tree, index, head, letter)
        for index, head in enumerate(tops) for letter in places(kinds, tree, head)
    ]


def standings(book, tree):
    """The list of the placings whose head is a tree, by the number of the relation, then by the letter."""
    check_tree(book.kinds, tree)
    return _standings_of(book.kinds, tree, heads(book))


def is_low(book, tree):
    """Whether no head stands in a tree."""
    return avoids(book.kinds, tree, heads(book))


def low_trees(book, size, width):
    """The list of the low trees of a size and width, ascending."""
    trees = listed(book.kinds, size, width)
    tops = heads(book)
    return [tree for tree in trees if avoids(book.kinds, tree, tops)]


def first_step(book, one):
    """The first step of a sum, or None."""
    check_sum(book, one)
    tops = heads(book)
    for tree, _ in reversed(one.terms()):
        found = _standings_of(book.kinds, tree, tops)
        if found:
            return found[0]
    return None


def step_down(book, one, placing):
    """The sum that a step makes."""
    check_sum(book, one)
    lost = placed(book, placing)
    tree, lead = lost.head()
    # The sum raises BadNumber if the tree has another size or width.
    x = one.at(tree)
    if x == ZERO:
        raise BadNumber("the placing is no step for the sum")
    return one - lost.scaled(over(book.p, x, lead))


def down(book, one):
    """The end of going down from a sum, and the chain of the first steps."""
    check_sum(book, one)
    return _gone_down(book, one, MOST_STEPS)


def lowered(book, one):
    """The end of going down from a sum, however many steps this takes."""
    return _gone_down(book, one, None)[0]


def _gone_down(book, one, most):
    """The end and the chain; raises TooLarge if there are more than `most` steps, unless this is None.

    A step changes lesser trees than its own alone, so each tree is looked at once, the greatest one first.
    """
    tops = heads(book)
    left = one
    chain = []
    seen = {}
    waiting = []
    _put_in(one, seen, waiting)
    while waiting:
        tree = heappop(waiting)[1]
        x = left.at(tree)
        found = _standings_of(book.kinds, tree, tops) if x != ZERO else []
        if found:
            if len(chain) == most:
                raise TooLarge("there are too many steps")
            chain.append(found[0])
            lost = placed(book, found[0])
            left = left - lost.scaled(over(book.p, x, lost.at(tree)))
            _put_in(lost, seen, waiting)
    return left, chain


def _put_in(one, seen, waiting):
    """Puts the trees of a sum that have not been seen into a heap from which the greatest one is taken first."""
    for tree, _ in one.terms():
        if tree not in seen:
            seen[tree] = True
            heappush(waiting, ([-told for told in order_key(one.kinds, tree)], tree))


def walked(book, one, chain):
    """The sum that a list of steps makes, one after the other."""
    check_sum(book, one)
    for placing in chain:
        one = step_down(book, one, placing)
    return one
