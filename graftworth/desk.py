"""A desk, which answers lines of text about sums and books with names."""
from graftworth.commands import ACTIONS, ANY_WORDS, BOOK, FORMS, INTEGER, KINDS, NEW, SUM, SUM_OR_BOOK
from graftworth.errors import GraftError, NotBook, NotKinds, NotSum
from graftworth.lines import is_name, number_in, words_of
from graftworth.sums import Sum, kinds_in

BAD = "bad"
REFUSED = "refused"
UNKNOWN = "unknown"
DROP = "drop"


class Desk:
    """A desk with sums and books by their names."""

    def __init__(self):
        self._things = {}

    def answer(self, line):
        """The answer to a line, which may change the desk."""
        words = words_of(line)
        if words is None or not _is_well_formed(words):
            return BAD
        for sign, word in zip(FORMS[words[0]], words[1:]):
            if _names_thing(sign) and word not in self._things:
                return f"{UNKNOWN} {word}"
        try:
            return self._done(words)
        except GraftError:
            return REFUSED

    def answers(self, lines):
        """The list of the answers to several lines, in order."""
        return [self.answer(line) for line in lines]

    def names(self):
        """The sorted list of the names that have something."""
        return sorted(list(self._things))

    def thing(self, name):
        """The sum or the book of a name, or None."""
        return self._things.get(name)

    def copied(self):
        """A desk of its own with the same sums and books."""
        made = Desk()
        made._things = dict(self._things)
        return made

    def _done(self, words):
        """Does what a line of known words wants, and returns the answer."""
        command = words[0]
        form = FORMS[command]
        told = [self._told(sign, word) for sign, word in zip(form, words[1:]) if sign not in (NEW, ANY_WORDS)]
        if form.endswith(ANY_WORDS):
            told.append(words[len(form):])
        action = ACTIONS[command]
        made = action(*told)
        if command == DROP:
            del self._things[words[1]]
        if form.startswith(NEW):
            self._things[words[1]] = made
            return str(len(made))
        return made

    def _told(self, sign, word):
        """What a word tells; raises an error if it tells nothing of the kind that is wanted."""
        if sign == INTEGER:
            return number_in(word)
        if sign == KINDS:
            kinds = kinds_in(word)
            if kinds is None:
                raise NotKinds("the word tells no kinds")
            return kinds
        if not _names_thing(sign):
            return word
        thing = self._things[word]
        if sign == SUM and not isinstance(thing, Sum):
            raise NotSum("the name has a book")
        if sign == BOOK and isinstance(thing, Sum):
            raise NotBook("the name has a sum")
        return thing


def _names_thing(sign):
    """Whether a word must name a sum or a book that is there."""
    return sign in (SUM, BOOK, SUM_OR_BOOK)


def _is_well_formed(words):
    """Whether a command has as many words as it wants, with names and integers where these are due."""
    if words[0] not in FORMS:
        return False
    form = FORMS[words[0]]
    many = len(words) - 1
    if form.endswith(ANY_WORDS):
        if many < len(form) - 1:
            return False
    elif many != len(form):
        return False
    return all([_fits(sign, word) for sign, word in zip(form, words[1:])])


def _fits(sign, word):
    if sign == INTEGER:
        return number_in(word) is not None
    if sign == NEW or _names_thing(sign):
        return is_name(word)
    return True
