"""The commands of a desk: the words that they want, and what they do with what these words tell."""
from graftworth.alike import are_alike, decide, is_lost, kept_trees, plain
from graftworth.books import read_book, text_of_book
from graftworth.counts import avoiding_number
from graftworth.duals import dimensions, dual, linked_number
from graftworth.numbers import number_text, read_number
from graftworth.overlaps import completed, is_complete
from graftworth.patterns import places
from graftworth.steps import down, low_trees
from graftworth.sums import Sum, read_sum, text_of_sum
from graftworth.texts import bracket_text
from graftworth.trees import counted, listed, paths

NEW = "N"
SUM = "L"
BOOK = "B"
SUM_OR_BOOK = "S"
INTEGER = "X"
KINDS = "K"
ANY_WORDS = "*"

# The words behind each command, a sign for each: a name that gets something (N), the name of a sum (L), of a book (B),
# of a sum or a book (S), an integer (X), kinds (K), any word (W), or any number of words (*).
FORMS = {
    "sum": "N*", "book": "N*", "drop": "S", "show": "S", "plus": "NLL", "less": "NLL", "scale": "NLW", "graft": "NLXL",
    "mirror": "NS", "plain": "NLB", "down": "NLB", "complete": "NBX", "dual": "NB", "head": "L", "lost": "LB",
    "alike": "LLB", "decide": "LLB", "kept": "BXX", "low": "BXX", "dims": "BX", "whole": "BX", "linked": "BX",
    "bracket": "KW", "paths": "KW", "count": "KXX", "list": "KXX", "stands": "KWW", "avoid": "KXX*",
}


def _yes_or_no(told):
    return "yes" if told else "no"


def _list_text(texts):
    return " ".join(texts) if texts else "empty"


def _read_sum(words):
    return read_sum(" ".join(words))


def _read_book(words):
    return read_book(" ".join(words))


def _dropped(_):
    return "ok"


def _shown(thing):
    return text_of_sum(thing) if isinstance(thing, Sum) else text_of_book(thing)


def _added(one, other):
    return one + other


def _subtracted(one, other):
    return one - other


def _scaled(one, word):
    return one.scaled(read_number(one.p, word))


def _grafted(one, at, other):
    return one.grafted(at, other)


def _mirrored(thing):
    return thing.mirrored()


def _end_of_going_down(one, book):
    return down(book, one)[0]


def _plain_sum(one, book):
    return plain(book, one)


def _completed(book, size):
    return completed(book, size)


def _dual(book):
    return dual(book)


def _head(one):
    tree, x = one.head()
    return f"{tree} {number_text(one.p, x)}"


def _lost(one, book):
    return _yes_or_no(is_lost(book, one))


def _alike(one, other, book):
    return _yes_or_no(are_alike(book, one, other))


def _decided(one, other, book):
    return decide(book, one, other)[0]


def _kept(book, size, width):
    return _list_text(kept_trees(book, size, width))


def _low(book, size, width):
    return _list_text(low_trees(book, size, width))


def _dimensions(book, most):
    return _list_text([str(many) for many in dimensions(book, most)])


def _whole(book, size):
    return _yes_or_no(is_complete(book, size))


def _linked(book, size):
    return str(linked_number(book, size))


def _brackets(kinds, tree):
    return bracket_text(kinds, tree)


def _paths(kinds, tree):
    return _list_text([path if path != "" else "-" for path in paths(kinds, tree)])


def _counted(kinds, size, width):
    return str(counted(kinds, size, width))


def _listed(kinds, size, width):
    return _list_text(listed(kinds, size, width))


def _stands(kinds, tree, pattern):
    return _list_text([str(letter) for letter in places(kinds, tree, pattern)])


def _avoiding(kinds, size, width, patterns):
    return str(avoiding_number(kinds, patterns, size, width))


# What is put under a name is returned as it is, everything else as the text of the answer.
ACTIONS = {
    "sum": _read_sum, "book": _read_book, "drop": _dropped, "show": _shown, "plus": _added, "less": _subtracted,
    "scale": _scaled, "graft": _grafted, "mirror": _mirrored, "plain": _plain_sum, "down": _end_of_going_down,
    "complete": _completed, "dual": _dual, "head": _head, "lost": _lost, "alike": _alike, "decide": _decided,
    "kept": _kept, "low": _low, "dims": _dimensions, "whole": _whole, "linked": _linked, "bracket": _brackets,
    "paths": _paths, "count": _counted, "list": _listed, "stands": _stands, "avoid": _avoiding,
}
