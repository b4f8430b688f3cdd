"""Plain models to compare the program with. A model tree is None, or a pair of a letter and a tuple of model trees."""
import fractions
import functools
import itertools

from graftworth.books import Book
from graftworth.sums import Sum

LETTERS = "abc"
ALL_KINDS = [kinds for many in (1, 2, 3) for kinds in itertools.product((2, 3), repeat=many)]
SOME_KINDS = [(2,), (3,), (2, 2), (3, 2), (2, 3, 2)]
WRONG_KINDS = [(), (2, 2, 2, 2), (3, 3, 3, 3), (1,), (4,), (0,), (-2,), (2, 1), (2, 4), (2, 3, 0), (2, 2, -3), (5, 2)]
WRONG_TREES = ["", "..", "a", "a.", "a...", ".a..", "b..", "a.. ", " a..", "A..", "a..\n", "(a..)"]


class Numbers:
    """A row of integers that looks disordered and is the same in every run."""

    def __init__(self, seed):
        self.now = seed

    def below(self, bound):
        self.now = (self.now * 6364136223846793005 + 1442695040888963407) % 2 ** 64
        return (self.now >> 20) % bound

    def between(self, low, high):
        return low + self.below(high - low + 1)


def compositions(total, many):
    if many == 0:
        return [()] if total == 0 else []
    return [(first,) + rest for first in range(total + 1) for rest in compositions(total - first, many - 1)]


def models(kinds, size):
    """All model trees of a size."""
    if size == 0:
        return [None]
    found = []
    for letter, held in zip(LETTERS, kinds):
        for sizes in compositions(size - 1, held):
            rows = [models(kinds, part) for part in sizes]
            found.extend((letter, row) for row in itertools.product(*rows))
    return found


def models_up_to(kinds, most):
    return [model for size in range(most + 1) for model in models(kinds, size)]


def text(model):
    if model is None:
        return "."
    return model[0] + "".join(text(part) for part in model[1])


def brackets(model):
    if model is None:
        return "."
    return model[0] + "(" + ",".join(brackets(part) for part in model[1]) + ")"


def letters(model):
    return 0 if model is None else 1 + sum(letters(part) for part in model[1])


def dots(model):
    return 1 if model is None else sum(dots(part) for part in model[1])


def ways(model, above=""):
    if model is None:
        return [above]
    return [way for part in model[1] for way in ways(part, above + model[0])]


def turned(model):
    if model is None:
        return None
    return (model[0], tuple(turned(part) for part in reversed(model[1])))


def filled(model, parts):
    """The model tree with model trees at its dots; takes them from the front of a list."""
    if model is None:
        return parts.pop(0)
    return (model[0], tuple(filled(part, parts) for part in model[1]))


def parts(model):
    """The parts at the letters, in order."""
    if model is None:
        return []
    return [model] + [found for part in model[1] for found in parts(part)]


def hung(pattern, model):
    """What hangs at the dots of a pattern that stands at the beginning of a model tree, or None."""
    if pattern is None:
        return [model]
    if model is None or model[0] != pattern[0]:
        return None
    found = []
    for below, part in zip(pattern[1], model[1]):
        trees = hung(below, part)
        if trees is None:
            return None
        found.extend(trees)
    return found


def put_at(model, letter, other):
    """The model tree with another one in the place of the part at a letter."""
    if letter == 0:
        return other
    made = []
    left = letter - 1
    for part in model[1]:
        many = letters(part)
        made.append(put_at(part, left, other) if 0 <= left < many else part)
        left -= many
    return (model[0], tuple(made))


def parsed(kinds, word):
    """The model tree with a text, or None twice if there is none: (found, model)."""
    def read(at):
        if at >= len(word):
            return None
        if word[at] == ".":
            return at + 1, None
        if word[at] not in LETTERS[:len(kinds)]:
            return None
        row = []
        end = at + 1
        for _ in range(kinds[LETTERS.index(word[at])]):
            step = read(end)
            if step is None:
                return None
            end = step[0]
            row.append(step[1])
        return end, (word[at], tuple(row))

    step = read(0)
    if step is None or step[0] != len(word):
        return False, None
    return True, step[1]


def stands_for_tree(kinds, word):
    found, model = parsed(kinds, word)
    return found and letters(model) <= 9 and dots(model) <= 14


def compared(one, other):
    """-1, 0 or 1 for two model trees of one size and width, as the paths of their dots tell it."""
    for first, second in zip(ways(one), ways(other)):
        if len(first) != len(second):
            return -1 if len(first) < len(second) else 1
        for sign, against in zip(first, second):
            if sign != against:
                return -1 if sign < against else 1
    return 0


def changed(word, signs):
    """The texts that come from one by changing a character, putting one in, or leaving one out."""
    found = []
    for at in range(len(word) + 1):
        found.extend(word[:at] + sign + word[at:] for sign in signs)
        if at < len(word):
            found.append(word[:at] + word[at + 1:])
            found.extend(word[:at] + sign + word[at + 1:] for sign in signs if sign != word[at])
    return found


PRIMES = [2, 3, 5, 7, 11, 13, 17, 19, 23, 29, 31]
FIELDS = [0] + PRIMES
WRONG_FIELDS = [-1, -2, 1, 4, 6, 9, 15, 30, 32, 37, 10 ** 5000]


def worth(p, x):
    """A number of a field as a fraction, or as a rest."""
    return x[0] if p else fractions.Fraction(x[0], x[1])


def pair(p, w):
    """The number of a field that a fraction or an integer tells."""
    if p:
        return (w % p, 1)
    w = fractions.Fraction(w)
    return (w.numerator, w.denominator)


def inverse(p, w):
    return next(x for x in range(p) if x * w % p == 1) if p else 1 / fractions.Fraction(w)


def some_number(numbers, p):
    """A number of a field, sometimes 0."""
    if p:
        return (numbers.below(p), 1)
    return pair(0, fractions.Fraction(numbers.between(-6, 6), numbers.between(1, 4)))


def not_zero(numbers, p):
    found = some_number(numbers, p)
    return found if found[0] else (1, 1)


def reduced(p, rows):
    """The echelon form of rows of fractions or rests."""
    left = [list(row) for row in rows]
    done = []
    for column in range(len(rows[0]) if rows else 0):
        lead = next((row for row in left if row[column]), None)
        if lead is None:
            continue
        left.remove(lead)
        by = inverse(p, lead[column])
        lead = [x * by % p if p else x * by for x in lead]
        left = [without(p, row, column, lead) for row in left]
        done = [without(p, row, column, lead) for row in done] + [lead]
    return done


def without(p, row, column, lead):
    return [(x - row[column] * y) % p if p else x - row[column] * y for x, y in zip(row, lead)]


@functools.lru_cache(maxsize=None)
def words_with(kinds, size, width):
    """The texts of all trees of a size and a width, in order."""
    found = [model for model in models(kinds, size) if dots(model) == width]
    return [text(model) for model in sorted(found, key=functools.cmp_to_key(compared))]


def model_of(kinds, word):
    return parsed(kinds, word)[1]


def grafted(kinds, word, at, other):
    """A tree with another one at one of its dots."""
    model = model_of(kinds, word)
    rows = [None] * dots(model)
    rows[at] = model_of(kinds, other)
    return text(filled(model, rows))


def grafted_all(kinds, word, trees):
    return text(filled(model_of(kinds, word), [model_of(kinds, tree) for tree in trees]))


def collected(p, pairs):
    """A dict of what is not 0, for pairs of a tree and a fraction or a rest."""
    found = {}
    for tree, w in pairs:
        found[tree] = (found.get(tree, 0) + w) % p if p else found.get(tree, 0) + w
    return {tree: w for tree, w in found.items() if w != 0}


def as_dict(one):
    """A sum of the program as such a dict."""
    return {tree: worth(one.p, x) for tree, x in one.terms()}


def placed(kinds, relation, placing):
    """What is placed, for a relation as a dict."""
    _, context, at, trees = placing
    return {grafted(kinds, context, at, grafted_all(kinds, tree, trees)): w for tree, w in relation.items()}


def all_placings(kinds, forms, size, width):
    """All placings for relations of which the sizes and the widths are told."""
    found = []
    for index, (many, wide) in enumerate(forms):
        for context_size in range(size - many + 1):
            for context in models(kinds, context_size):
                for sizes in compositions(size - many - context_size, wide):
                    rows = [[text(model) for model in models(kinds, part)] for part in sizes]
                    for row in itertools.product(*rows):
                        if sum(word.count(".") for word in row) + dots(context) - 1 == width:
                            found.extend((index, text(context), at, row) for at in range(dots(context)))
    return found


def random_terms(numbers, p, kinds, size, width, most):
    """Some pairs of a tree and a number that is not 0, each tree once."""
    words = list(words_with(kinds, size, width))
    found = []
    for _ in range(numbers.between(1, most)):
        if words:
            found.append((words.pop(numbers.below(len(words))), not_zero(numbers, p)))
    return found


def order_key(kinds, word):
    return functools.cmp_to_key(compared)(model_of(kinds, word))


def standings(kinds, tops, word):
    """The placings of heads whose head is a tree, by the number of the head, then by the letter."""
    model = model_of(kinds, word)
    found = []
    for index, head in enumerate(tops):
        for letter, part in enumerate(parts(model)):
            trees = hung(model_of(kinds, head), part)
            if trees is not None:
                begin = [at for at, sign in enumerate(word) if sign != "."][letter]
                context = text(put_at(model, letter, None))
                found.append((index, context, word[:begin].count("."), tuple(text(tree) for tree in trees)))
    return found


def heads(book):
    return [max(as_dict(one), key=lambda word: order_key(book.kinds, word)) for one in book.relations()]


def stepped(book, told, word, placing):
    """A dict of numbers less what is placed, so that a tree is gone."""
    one = as_dict(book.relations()[placing[0]])
    lead = one[heads(book)[placing[0]]]
    by = told[word] * inverse(book.p, lead)
    pairs = list(told.items())
    pairs.extend((tree, -by * w) for tree, w in placed(book.kinds, one, placing).items())
    return collected(book.p, pairs)


def first_step(book, told):
    """The greatest tree in which a head stands, and the first of its standings, or None twice."""
    for word in sorted(told, key=lambda word: order_key(book.kinds, word), reverse=True):
        found = standings(book.kinds, heads(book), word)
        if found:
            return word, found[0]
    return None, None


def book_of(written):
    """The book with a text, in which the terms may stand in any order."""
    first, *rest = written.split(" ; ")
    p, kinds = int(first.split(" ")[0]), tuple(int(figure) for figure in first.split(" ")[1])
    relations = []
    for told in rest:
        size, width, *words = told.split(" ")
        pairs = [(tree, pair(p, int(word) if p else fractions.Fraction(word))) for word, tree in zip(words[::2], words[1::2])]
        relations.append(Sum(p, kinds, int(size), int(width), pairs))
    return Book(p, kinds, relations)


def covered(pattern, letter, word_model):
    """The numbers of the letters that belong to a pattern that stands at a letter of a model tree."""
    found = set()

    def go(below, at, part):
        if below is None:
            return
        found.add(at)
        at += 1
        for inner, tree in zip(below[1], part[1]):
            go(inner, at, tree)
            at += letters(tree)

    go(pattern, letter, parts(word_model)[letter])
    return found


def overlaps_among(book, words):
    """The overlaps whose trees are among some words, as the definition tells them."""
    found = set()
    patterns = [model_of(book.kinds, head) for head in heads(book)]
    for word in words:
        model = model_of(book.kinds, word)
        told = []
        for index, head in enumerate(heads(book)):
            for placing in standings(book.kinds, [head], word):
                letter = letters_before(placing[1], placing[2])
                told.append((letter, index, (index,) + placing[1:], covered(patterns[index], letter, model)))
        every = set(range(letters(model)))
        for one, other in itertools.permutations(told, 2):
            if one[3] & other[3] and one[3] | other[3] == every and one[0] == 0:
                if other[0] > 0 or one[1] < other[1]:
                    found.add((word, one[2], other[2]))
    return found


def letters_before(context, at):
    """The number of letters before a dot."""
    dot = [index for index, sign in enumerate(context) if sign == "."][at]
    return len(context[:dot].replace(".", ""))


def words_up_to(kinds, most):
    return [text(model) for size in range(1, most + 1) for model in models(kinds, size)]


def without_one(told):
    """The lists or tuples that come from one by leaving an entry out, or by putting it in twice."""
    for at in range(len(told)):
        yield told[:at] + told[at + 1:]
        yield told[:at + 1] + told[at:]


def mutants(told, signs="ab."):
    """What comes from nested lists and tuples of integers and strings by one change; tuples keep their lengths."""
    if isinstance(told, int):
        yield from (told + 1, told - 1, -told - 1, 10 ** 30)
    elif isinstance(told, str):
        yield from changed(told, signs)
    else:
        for at, part in enumerate(told):
            for other in mutants(part, signs):
                yield told[:at] + type(told)([other]) + told[at + 1:]
        if isinstance(told, list):
            yield from without_one(told)


def told_terms(one):
    """A sum as a list of terms, the greatest tree first."""
    return one.terms()[::-1]


def told_relations(book):
    return [told_terms(one) for one in book.relations()]


def is_number(p, x):
    if p:
        return x[1] == 1 and x[0] in range(p)
    return x[1] > 0 and pair(0, fractions.Fraction(*x)) == x


def placed_by(book, placing):
    """What a placing places, as a dict, or None if it is none or too large."""
    index, context, at, trees = placing
    if index not in range(len(book)) or not stands_for_tree(book.kinds, context) or at not in range(context.count(".")):
        return None
    one = as_dict(book.relations()[index])
    if not all(stands_for_tree(book.kinds, tree) for tree in trees) or {word.count(".") for word in one} != {len(trees)}:
        return None
    made = placed(book.kinds, one, placing)
    return made if all(stands_for_tree(book.kinds, word) for word in made) else None
