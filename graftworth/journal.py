"""A journal, which records the lines that its desk answers, and can take them back."""
from graftworth.desk import BAD, Desk
from graftworth.errors import BadJournal, OpenTrial

LINE_MARK = "> "
ANSWER_MARK = "< "
NEWLINE = "\n"


class State:
    """What a journal has at some time: its desk, and the recorded lines with their answers."""

    def __init__(self, desk, pairs):
        self.desk = desk
        self.pairs = pairs

    def copied(self):
        """A state of its own, with the same."""
        return State(self.desk.copied(), list(self.pairs))


class Journal:
    """A journal with a desk of its own."""

    def __init__(self):
        self._state = State(Desk(), [])
        # While a trial is open: what there was at its beginning, and what there will be at its end.
        self._before = None
        self._after = None

    def answer(self, line):
        """The answer to a line, which is recorded if it can be."""
        if not _can_be_recorded(line):
            return BAD
        found = self._state.desk.answer(line)
        self._state.pairs.append((line, found))
        return found

    def record(self):
        """The text of the record."""
        rows = [LINE_MARK + line + NEWLINE + ANSWER_MARK + found + NEWLINE for line, found in self._state.pairs]
        return "".join(rows)

    def lines(self):
        """The list of the recorded lines."""
        return [line for line, _ in self._state.pairs]

    def keep(self):
        """Lets the open trial stay as it is at its end."""
        if self._before is None:
            raise OpenTrial("no trial is open")
        self._after = self._state

    def __enter__(self):
        if self._before is not None:
            raise OpenTrial("a trial is open")
        self._before = self._state
        self._after = self._state
        self._state = self._state.copied()
        return self

    def __exit__(self, kind, value, trace):
        if kind is not None:
            self._after = self._before
        self._state = self._after
        self._before = None
        self._after = None


def _can_be_recorded(line):
    return all([" " <= sign <= "~" for sign in line])


def attempt(journal, lines, *, keep=False):
    """Answers lines in a trial; returns the answers, and the record at the end of the trial."""
    with journal as trial:
        answers = [trial.answer(line) for line in lines]
        record = trial.record()
        if keep:
            trial.keep()
    return answers, record


def resume(text):
    """The journal that goes on from a record, which may have been cut off."""
    rows = text.split(NEWLINE)[:-1]
    made = Journal()
    for index in range(0, len(rows), 2):
        line = rows[index][len(LINE_MARK):]
        if not rows[index].startswith(LINE_MARK) or not _can_be_recorded(line):
            raise BadJournal(index)
        # The last line may stand there without its answer: then it was not done.
        if index + 1 < len(rows) and rows[index + 1] != ANSWER_MARK + made.answer(line):
            raise BadJournal(index + 1)
    return made
