"""Sums of trees of one size and width, each with a number of a field."""
from graftworth.errors import BadNumber, Malformed, NoAnswer, TooLarge
from graftworth.grafting import check_dot, cut_at_dot, filled, mirrored
from graftworth.numbers import FIELDS, FIGURES, ZERO, check_field, check_number, minus, number_of_text, number_text
from graftworth.numbers import plus, times
from graftworth.trees import DOT, MOST_DOTS, MOST_LETTERS, check_kinds, check_size_and_width, check_tree, is_kinds
from graftworth.trees import is_before, is_tree, letters_in, order_key


class Sum:
    """A sum: a number that is not 0 for each of finitely many trees. No method changes it."""

    def __init__(self, p, kinds, size, width, terms):
        check_field(p)
        check_kinds(kinds)
        check_size_and_width(size, width)
        numbers = {}
        for tree, x in terms:
            _check_form(kinds, size, width, tree)
            numbers[tree] = plus(p, numbers.get(tree, ZERO), x)
        self.p = p
        self.kinds = kinds
        self.size = size
        self.width = width
        self._numbers = _without_zeros(numbers)

    def terms(self):
        """The list of the pairs of a tree and its number, in order."""
        trees = sorted(list(self._numbers), key=lambda tree: order_key(self.kinds, tree))
        return [(tree, self._numbers[tree]) for tree in trees]

    def at(self, tree):
        """The number of a tree."""
        _check_form(self.kinds, self.size, self.width, tree)
        return self._numbers.get(tree, ZERO)

    def head(self):
        """The greatest tree and its number."""
        if len(self._numbers) == 0:
            raise NoAnswer("the sum 0 has no head")
        greatest = max(list(self._numbers), key=lambda tree: order_key(self.kinds, tree))
        return greatest, self._numbers[greatest]

    def scaled(self, number):
        """The sum multiplied by a number."""
        check_number(self.p, number)
        return self._like({tree: times(self.p, x, number) for tree, x in self._numbers.items()})

    def grafted(self, at, other):
        """The sum grafted with another one at the dot with a number."""
        if self.p != other.p or self.kinds != other.kinds:
            raise BadNumber("the sums have different fields or kinds")
        if not 0 <= at < self.width:
            raise BadNumber("no dot has this number")
        size = self.size + other.size
        width = self.width + other.width - 1
        _check_room(size, width)
        numbers = {}
        for tree, x in self._numbers.items():
            before, behind = cut_at_dot(tree, at)
            for part, y in other._numbers.items():
                # Different pairs make different trees, so nothing has to be added.
                numbers[before + part + behind] = times(self.p, x, y)
        return _made(self.p, self.kinds, size, width, numbers)

    def under(self, tree, at):
        """The sum put under a tree at its dot with a number."""
        check_tree(self.kinds, tree)
        check_dot(tree, at)
        size = letters_in(tree) + self.size
        width = tree.count(DOT) + self.width - 1
        _check_room(size, width)
        before, behind = cut_at_dot(tree, at)
        numbers = {before + part + behind: x for part, x in self._numbers.items()}
        return _made(self.p, self.kinds, size, width, numbers)

    def with_all(self, trees):
        """The sum with the trees of a list grafted to the dots of each of its trees."""
        for tree in trees:
            check_tree(self.kinds, tree)
        if len(trees) != self.width:
            raise BadNumber("there are not as many trees as dots")
        size = self.size + sum([letters_in(tree) for tree in trees])
        width = sum([tree.count(DOT) for tree in trees])
        _check_room(size, width)
        numbers = {filled(tree, trees): x for tree, x in self._numbers.items()}
        return _made(self.p, self.kinds, size, width, numbers)

    def mirrored(self):
        """The sum of the mirrored trees."""
        return self._like({mirrored(self.kinds, tree): x for tree, x in self._numbers.items()})

    def _like(self, numbers):
        """The sum of the same form with the numbers of a dict."""
        return _made(self.p, self.kinds, self.size, self.width, numbers)

    def __add__(self, other):
        _check_alike_formed(self, other)
        numbers = dict(self._numbers)
        for tree, x in other._numbers.items():
            numbers[tree] = plus(self.p, numbers.get(tree, ZERO), x)
        return self._like(numbers)

    def __sub__(self, other):
        _check_alike_formed(self, other)
        numbers = dict(self._numbers)
        for tree, x in other._numbers.items():
            numbers[tree] = minus(self.p, numbers.get(tree, ZERO), x)
        return self._like(numbers)

    def __neg__(self):
        return self._like({tree: minus(self.p, ZERO, x) for tree, x in self._numbers.items()})

    def __eq__(self, other):
        return (
            isinstance(other, Sum) and self.p == other.p and self.kinds == other.kinds
            and self.size == other.size and self.width == other.width and self._numbers == other._numbers
        )

    def __len__(self):
        return len(self._numbers)

    def __bool__(self):
        return bool(self._numbers)


def _without_zeros(numbers):
    return {tree: x for tree, x in numbers.items() if x != ZERO}


def _made(p, kinds, size, width, numbers):
    """The sum with the numbers of a dict, whose trees are known to be of this size and width."""
    made = Sum(p, kinds, size, width, [])
    made._numbers = _without_zeros(numbers)
    return made


def _has_form(size, width, tree):
    return letters_in(tree) == size and tree.count(DOT) == width


def _check_form(kinds, size, width, tree):
    check_tree(kinds, tree)
    if not _has_form(size, width, tree):
        raise BadNumber("the tree has another size or width than the sum")


def _check_alike_formed(one, other):
    if one.p != other.p or one.kinds != other.kinds or one.size != other.size or one.width != other.width:
        raise BadNumber("the sums have different fields, kinds, sizes or widths")


def _check_room(size, width):
    if size > MOST_LETTERS or width > MOST_DOTS:
        raise TooLarge("the trees would have too many letters or too many dots")


def zero_sum(p, kinds, size, width):
    """The sum without terms."""
    return Sum(p, kinds, size, width, [])


def numbers_along(one, trees):
    """The list of the numbers of some trees of a sum's size and width."""
    numbers = dict(one.terms())
    return [numbers.get(tree, ZERO) for tree in trees]


def text_of_sum(one):
    """The text of a sum."""
    return " ".join(field_words(one.p, one.kinds) + words_of_terms(one))


def field_words(p, kinds):
    """The words of a field and of kinds."""
    return [str(p), "".join([str(held) for held in kinds])]


def words_of_terms(one):
    """The words of the size and the width of a sum, and of its terms."""
    words = [str(one.size), str(one.width)]
    for tree, x in one.terms():
        words.extend([number_text(one.p, x), tree])
    return words


def read_sum(text):
    """The sum with a text; raises Malformed with the number of the first wrong word."""
    words = text.split(" ")
    p, kinds = read_field(words)
    size, width = read_form(words, 2, 0, MOST_LETTERS)
    zero = zero_sum(p, kinds, size, width)
    terms = []
    for at in range(4, len(words), 2):
        terms.append(read_term(words, at, zero, terms))
    return Sum(p, kinds, size, width, terms)


def word_at(words, at):
    """The word with a number; raises Malformed if it is lacking."""
    if at >= len(words):
        raise Malformed(len(words))
    return words[at]


def _read_integer(words, at, allowed):
    """The one of some integers whose decimal form is the word with a number."""
    word = word_at(words, at)
    for whole in allowed:
        if str(whole) == word:
            return whole
    raise Malformed(at)


def read_field(words):
    """The field and the kinds that the first two words tell."""
    p = _read_integer(words, 0, FIELDS)
    kinds = kinds_in(word_at(words, 1))
    if kinds is None:
        raise Malformed(1)
    return p, kinds


def kinds_in(word):
    """The kinds that a word of figures tells, or None."""
    if not all([figure in FIGURES for figure in word]):
        return None
    kinds = tuple([int(figure) for figure in word])
    return kinds if is_kinds(kinds) else None


def read_form(words, at, least, most):
    """The size, within bounds, and the width that two words tell, from a number on."""
    size = _read_integer(words, at, list(range(least, most + 1)))
    return size, _read_integer(words, at + 1, list(range(1, MOST_DOTS + 1)))


def read_term(words, at, zero, before):
    """The pair of a tree and its number that two words tell; `before` are the terms that stand before it."""
    x = number_of_text(zero.p, word_at(words, at))
    if x is None or x == ZERO:
        raise Malformed(at)
    tree = word_at(words, at + 1)
    if not (is_tree(zero.kinds, tree) and _has_form(zero.size, zero.width, tree)):
        raise Malformed(at + 1)
    if before and not is_before(zero.kinds, before[-1][0], tree):
        raise Malformed(at + 1)
    return tree, x
