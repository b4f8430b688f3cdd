"""Books of relations, and relations placed within trees."""
from graftworth.errors import BadNumber, Malformed, NotBook, NotPlacing, TooLarge
from graftworth.grafting import side_by_side
from graftworth.numbers import check_field, check_number
from graftworth.sums import Sum, field_words, read_field, read_form, read_term, word_at, words_of_terms, zero_sum
from graftworth.trees import DOT, MOST_DOTS, MOST_LETTERS, check_kinds, check_size_and_width, is_tree, letters_in
from graftworth.trees import orders_of_signs, rows_of_trees

MOST_RELATIONS = 10
MOST_SIZE = 6
MOST_PLACINGS = 400
MARK = ";"


class Book:
    """A book of relations. No method changes it."""

    def __init__(self, p, kinds, relations):
        check_field(p)
        check_kinds(kinds)
        if len(relations) > MOST_RELATIONS:
            raise NotBook("a book has at most ten relations")
        for relation in relations:
            if relation.p != p or relation.kinds != kinds:
                raise NotBook("a relation has another field or other kinds than the book")
            if len(relation) == 0 or not 1 <= relation.size <= MOST_SIZE:
                raise NotBook("a relation is 0, or its size is not from 1 to 6")
        self.p = p
        self.kinds = kinds
        self._relations = list(relations)

    def relations(self):
        """The list of the relations."""
        return list(self._relations)

    def mirrored(self):
        """The book of the mirrored relations."""
        return Book(self.p, self.kinds, [relation.mirrored() for relation in self._relations])

    def __eq__(self, other):
        return (
            isinstance(other, Book) and self.p == other.p and self.kinds == other.kinds
            and self._relations == other._relations
        )

    def __len__(self):
        return len(self._relations)


def check_sum(book, one):
    """Raises BadNumber if a sum has another field or other kinds than the book."""
    if one.p != book.p or one.kinds != book.kinds:
        raise BadNumber("the sum has another field or other kinds than the book")


def check_placing(book, placing):
    """Raises NotPlacing if a tuple is no placing, then TooLarge if what is placed would be too large."""
    index, context, at, trees = placing
    if not 0 <= index < len(book):
        raise NotPlacing("no relation has this number")
    relation = book.relations()[index]
    if not is_tree(book.kinds, context) or not 0 <= at < context.count(DOT):
        raise NotPlacing("the context is no tree, or has no dot with this number")
    if len(trees) != relation.width or not all([is_tree(book.kinds, tree) for tree in trees]):
        raise NotPlacing("there is not one tree for each dot of the relation")
    letters = relation.size + letters_in(context) + sum([letters_in(tree) for tree in trees])
    dots = context.count(DOT) - 1 + sum([tree.count(DOT) for tree in trees])
    if letters > MOST_LETTERS or dots > MOST_DOTS:
        raise TooLarge("what is placed would have too many letters or too many dots")


def placed(book, placing):
    """What a placing places: a sum."""
    check_placing(book, placing)
    index, context, at, trees = placing
    return book.relations()[index].with_all(list(trees)).under(context, at)


def placings(book, size, width):
    """The list of all placings whose sums have a size and a width."""
    check_few_placings(book, size, width)
    found = []
    known = {}
    for index, relation in enumerate(book.relations()):
        for letters in range(size - relation.size + 1):
            for dots in range(1, width + 1):
                found.extend(_placings_in(book, index, letters, dots, size, width, known))
    return found


def check_few_placings(book, size, width):
    """Raises BadNumber if no tree may have such a size or width, then TooLarge if there are too many placings."""
    check_size_and_width(size, width)
    many = 0
    for relation in book.relations():
        if relation.size <= size:
            # A placing is a tree with one further letter, which stands for the relation. Turned about in a circle, an
            # order of its signs is a tree at one place alone: so there are as many as orders of the other signs.
            many += orders_of_signs(book.kinds, relation.width, size - relation.size, width)
    if many > MOST_PLACINGS:
        raise TooLarge("there are too many placings of this size and width")


def _placings_in(book, index, letters, dots, size, width, known):
    """The placings of the relation with a number, in contexts of so many letters and dots.

    What `rows_of_trees` has made is kept in `known`.
    """
    relation = book.relations()[index]
    contexts = rows_of_trees(book.kinds, 1, letters, dots, known)
    if contexts == []:
        return []
    left = size - relation.size - letters
    texts = rows_of_trees(book.kinds, relation.width, left, width + 1 - dots, known)
    rows = [tuple(side_by_side(book.kinds, text)) for text in texts]
    return [(index, context, at, row) for context in contexts for at in range(dots) for row in rows]


def combined(book, size, width, pairs):
    """The sum of what is placed, each multiplied by its number, for a list of pairs of a number and a placing."""
    total = zero_sum(book.p, book.kinds, size, width)
    for x, placing in pairs:
        check_number(book.p, x)
        # The sums raise BadNumber if what is placed has another size or width.
        total = total + placed(book, placing).scaled(x)
    return total


def text_of_book(book):
    """The text of a book."""
    words = field_words(book.p, book.kinds)
    for relation in book.relations():
        words.append(MARK)
        words.extend(words_of_terms(relation))
    return " ".join(words)


def read_book(text):
    """The book with a text; raises Malformed with the number of the first wrong word."""
    words = text.split(" ")
    p, kinds = read_field(words)
    relations = []
    at = 2
    while at < len(words):
        if words[at] != MARK or len(relations) == MOST_RELATIONS:
            raise Malformed(at)
        relation, at = _read_relation(words, at + 1, p, kinds)
        relations.append(relation)
    return Book(p, kinds, relations)


def _read_relation(words, at, p, kinds):
    """The relation whose words begin at a number, and the number of the word behind them."""
    size, width = read_form(words, at, 1, MOST_SIZE)
    zero = zero_sum(p, kinds, size, width)
    terms = [read_term(words, at + 2, zero, [])]
    at += 4
    while at < len(words) and words[at] != MARK:
        terms.append(read_term(words, at, zero, terms))
        at += 2
    return Sum(p, kinds, size, width, terms), at
