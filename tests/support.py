"""Plain models to compare the program with. A model tree is None, or a pair of a letter and a tuple of model trees."""
import itertools

LETTERS = "abc"
ALL_KINDS = [kinds for many in (1, 2, 3) for kinds in itertools.product((2, 3), repeat=many)]
SOME_KINDS = [(2,), (3,), (2, 2), (3, 2), (2, 3, 2)]
WRONG_KINDS = [(), (2, 2, 2, 2), (3, 3, 3, 3), (1,), (4,), (0,), (-2,), (2, 1), (2, 4), (2, 3, 0), (2, 2, -3), (5, 2)]
WRONG_TREES = ["", "..", "a", "a.", "a...", ".a..", "b..", "a.. ", " a..", "A..", "a..\n", "(a..)"]


class Numbers:
    """A row of integers that looks disordered and is the same in every run."""

    def __init__(self, seed):
        self.now = seed

    def below(self, bound):
        self.now = (self.now * 6364136223846793005 + 1442695040888963407) % 2 ** 64
        return (self.now >> 20) % bound

    def between(self, low, high):
        return low + self.below(high - low + 1)


def compositions(total, many):
    if many == 0:
        return [()] if total == 0 else []
    return [(first,) + rest for first in range(total + 1) for rest in compositions(total - first, many - 1)]


def models(kinds, size):
    """All model trees of a size."""
    if size == 0:
        return [None]
    found = []
    for letter, held in zip(LETTERS, kinds):
        for sizes in compositions(size - 1, held):
            rows = [models(kinds, part) for part in sizes]
            found.extend((letter, row) for row in itertools.product(*rows))
    return found


def models_up_to(kinds, most):
    return [model for size in range(most + 1) for model in models(kinds, size)]


def text(model):
    if model is None:
        return "."
    return model[0] + "".join(text(part) for part in model[1])


def brackets(model):
    if model is None:
        return "."
    return model[0] + "(" + ",".join(brackets(part) for part in model[1]) + ")"


def letters(model):
    return 0 if model is None else 1 + sum(letters(part) for part in model[1])


def dots(model):
    return 1 if model is None else sum(dots(part) for part in model[1])


def ways(model, above=""):
    if model is None:
        return [above]
    return [way for part in model[1] for way in ways(part, above + model[0])]


def turned(model):
    if model is None:
        return None
    return (model[0], tuple(turned(part) for part in reversed(model[1])))


def filled(model, parts):
    """The model tree with model trees at its dots; takes them from the front of a list."""
    if model is None:
        return parts.pop(0)
    return (model[0], tuple(filled(part, parts) for part in model[1]))


def parts(model):
    """The parts at the letters, in order."""
    if model is None:
        return []
    return [model] + [found for part in model[1] for found in parts(part)]


def hung(pattern, model):
    """What hangs at the dots of a pattern that stands at the beginning of a model tree, or None."""
    if pattern is None:
        return [model]
    if model is None or model[0] != pattern[0]:
        return None
    found = []
    for below, part in zip(pattern[1], model[1]):
        trees = hung(below, part)
        if trees is None:
            return None
        found.extend(trees)
    return found


def put_at(model, letter, other):
    """The model tree with another one in the place of the part at a letter."""
    if letter == 0:
        return other
    made = []
    left = letter - 1
    for part in model[1]:
        many = letters(part)
        made.append(put_at(part, left, other) if 0 <= left < many else part)
        left -= many
    return (model[0], tuple(made))


def parsed(kinds, word):
    """The model tree with a text, or None twice if there is none: (found, model)."""
    def read(at):
        if at >= len(word):
            return None
        if word[at] == ".":
            return at + 1, None
        if word[at] not in LETTERS[:len(kinds)]:
            return None
        row = []
        end = at + 1
        for _ in range(kinds[LETTERS.index(word[at])]):
            step = read(end)
            if step is None:
                return None
            end = step[0]
            row.append(step[1])
        return end, (word[at], tuple(row))

    step = read(0)
    if step is None or step[0] != len(word):
        return False, None
    return True, step[1]


def stands_for_tree(kinds, word):
    found, model = parsed(kinds, word)
    return found and letters(model) <= 9 and dots(model) <= 14


def compared(one, other):
    """-1, 0 or 1 for two model trees of one size and width, as the paths of their dots tell it."""
    for first, second in zip(ways(one), ways(other)):
        if len(first) != len(second):
            return -1 if len(first) < len(second) else 1
        for sign, against in zip(first, second):
            if sign != against:
                return -1 if sign < against else 1
    return 0


def changed(word, signs):
    """The texts that come from one by changing a character, putting one in, or leaving one out."""
    found = []
    for at in range(len(word) + 1):
        found.extend(word[:at] + sign + word[at:] for sign in signs)
        if at < len(word):
            found.append(word[:at] + word[at + 1:])
            found.extend(word[:at] + sign + word[at + 1:] for sign in signs if sign != word[at])
    return found
