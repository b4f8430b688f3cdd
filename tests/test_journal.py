import unittest

from graftworth.desk import Desk
from graftworth.errors import BadJournal, OpenTrial
from graftworth.journal import Journal, attempt, resume
import support
from test_desk import SETUP, lines, text_of

LINES = [
    "sum a 0 2 2 3 1 aa...", "sum b 0 2 2 3 1 a.a..", "book k 0 2 ; 2 3 -1 a.a.. 1 aa...", "show a", "", " ", "less c a b", "foo", "lost c k",
    "show nothing", "plus a a k", "graft a a 0 b", "head a", "drop b", "drop b", "scale a a ~", "show a",
]
NOT_RECORDED = ["\t", "show a\n", "\nshow a", "show\ta", "show a\x7f", "sum \xe9 0 2 1 2", "\x00", "show a\r", "\u2028", "drop a\n< ok", "a\x1f"]


def filled(some=LINES):
    journal = Journal()
    for line in some:
        journal.answer(line)
    return journal


def record_of(some):
    """The record of some lines that can be recorded, told by a desk."""
    return "".join(f"> {line}\n< {answer}\n" for line, answer in zip(some, Desk().answers(some)))


def snapshot(journal):
    """What can be seen of a journal and of its desk."""
    names = "abcdefghijklmnopqrstuvwxyz"
    with_desk = [attempt(journal, [f"show {name}"])[0][0] for name in names]
    return journal.record(), journal.lines(), with_desk


class Recording(unittest.TestCase):
    def test_answers_are_those_of_a_desk(self):
        journal, desk = Journal(), Desk()
        every = SETUP + [" ".join(words) for _, _, words, _ in lines()] + LINES
        for line in every:
            self.assertEqual(journal.answer(line), desk.answer(line))
        self.assertEqual(journal.lines(), every)
        self.assertEqual(journal.record(), record_of(every))

    def test_new_journals(self):
        self.assertEqual(Journal().record(), "")
        self.assertEqual(Journal().lines(), [])

    def test_rows(self):
        journal = Journal()
        self.assertEqual(journal.answer("sum a 0 2 1 2 1 a.."), "1")
        self.assertEqual(journal.record(), "> sum a 0 2 1 2 1 a..\n< 1\n")
        self.assertEqual(journal.answer(""), "bad")
        self.assertEqual(journal.answer("drop a"), "ok")
        self.assertEqual(journal.answer("show a"), "unknown a")
        self.assertEqual(journal.record(), "> sum a 0 2 1 2 1 a..\n< 1\n> \n< bad\n> drop a\n< ok\n> show a\n< unknown a\n")
        self.assertEqual(journal.lines(), ["sum a 0 2 1 2 1 a..", "", "drop a", "show a"])

    def test_lines_that_cannot_be_recorded(self):
        journal = filled()
        before = snapshot(journal)
        for line in NOT_RECORDED:
            self.assertEqual(journal.answer(line), "bad")
            self.assertEqual(snapshot(journal), before)
        # Each character from the space to ~ can be recorded, also where the line is malformed.
        for code in range(32, 127):
            journal = Journal()
            self.assertEqual(journal.answer(chr(code)), "bad")
            self.assertEqual(journal.record(), f"> {chr(code)}\n< bad\n")

    def test_desks_of_their_own(self):
        one, other = Journal(), Journal()
        one.answer("sum a 0 2 1 2")
        self.assertEqual(other.answer("show a"), "unknown a")

    def test_lists_of_their_own(self):
        journal = filled()
        journal.lines().clear()
        self.assertEqual(journal.lines(), LINES)


class Resuming(unittest.TestCase):
    def test_cut_off_at_every_place(self):
        record = record_of(LINES)
        whole = [record_of(LINES[:many]) for many in range(len(LINES) + 1)]
        for at in range(len(record) + 1):
            journal = resume(record[:at])
            due = max((some for some in whole if len(some) <= at), key=len)
            self.assertEqual(journal.record(), due)
            many = whole.index(due)
            self.assertEqual(journal.lines(), LINES[:many])
            # It goes on as the first one would have.
            if at % 7 == 0:
                self.assertEqual([journal.answer(line) for line in LINES[many:]], Desk().answers(LINES)[many:])
                self.assertEqual(journal.record(), record)

    def test_longer_records(self):
        every = SETUP + [" ".join(words) for _, _, words, _ in lines()]
        journal = resume(record_of(every))
        self.assertEqual(journal.record(), record_of(every))
        self.assertEqual(snapshot(journal), snapshot(filled(every)))
        self.assertEqual(resume(journal.record()).record(), journal.record())

    def test_what_stands_behind_the_last_newline(self):
        record = record_of(LINES[:3])
        for rest in ("", ">", "> ", "> drop a", "nothing", "< 1", "\t\x00", "> \xe9"):
            self.assertEqual(resume(record + rest).record(), record)
            self.assertEqual(resume(record + "> drop a\n" + rest).record(), record)
            self.assertEqual(resume(rest).record(), "")

    def test_a_line_without_its_answer(self):
        record = record_of(LINES[:3])
        journal = resume(record + "> drop a\n")
        self.assertEqual(journal.record(), record)
        self.assertEqual(journal.answer("show a"), "0 2 2 3 1 aa...")

    def assert_row(self, row, text):
        with self.assertRaises(BadJournal) as caught:
            resume(text)
        self.assertEqual(caught.exception.row, row, text)

    def test_rows_that_do_not_begin_as_they_must(self):
        rows = record_of(LINES).split("\n")[:-1]
        for at, row in enumerate(rows):
            for wrong in (row[1:], row[2:], "", " " + row, {"> ": "< ", "< ": "> "}[row[:2]] + row[2:], row[0] + row[2:], row[0] + "\t" + row[2:], "?" + row[1:]):
                if wrong.startswith(row[:2]):
                    continue
                self.assert_row(at, "\n".join(rows[:at] + [wrong] + rows[at + 1:]) + "\n")
                self.assert_row(at, "\n".join(rows[:at] + [wrong]) + "\n")
        self.assert_row(0, "\n")
        self.assert_row(0, ">\n")
        self.assert_row(0, "<\n")
        self.assert_row(1, "> foo\n\n")
        self.assert_row(1, "> foo\n<\n")

    def test_lines_that_cannot_be_recorded(self):
        for line in NOT_RECORDED:
            if "\n" in line:
                continue
            for many in (0, 1, 3):
                before = record_of(LINES[:many])
                self.assert_row(2 * many, before + f"> {line}\n")
                self.assert_row(2 * many, before + f"> {line}\n< bad\n")
                self.assert_row(2 * many, before + f"> {line}\nnothing\n")

    def test_answers_that_are_changed(self):
        rows = record_of(LINES).split("\n")[:-1]
        for at in range(1, len(rows), 2):
            for wrong in ("", "bad ", "x", "2", rows[at][2:] + " ", rows[at][3:], " " + rows[at][2:], "\t"):
                if wrong != rows[at][2:]:
                    self.assert_row(at, "\n".join(rows[:at] + ["< " + wrong] + rows[at + 1:]) + "\n")

    def test_lines_that_are_changed(self):
        # The answer to a later line tells that another one is changed.
        record = record_of(["sum a 0 2 1 2 1 a..", "sum b 0 2 1 2 1 a..", "head a", "less b a b", "head b"])
        self.assert_row(5, record.replace("sum a 0 2 1 2 1", "sum a 0 2 1 2 2"))
        self.assert_row(7, record.replace("> sum b 0 2 1 2 1", "> sum b 0 2 1 2 2"))

    def test_first_wrong_row(self):
        record = record_of(LINES)
        rows = record.split("\n")[:-1]
        numbers = support.Numbers(95)
        for _ in range(50):
            chosen = sorted({numbers.below(len(rows)) for _ in range(3)})
            changed = ["?" + row if at in chosen else row for at, row in enumerate(rows)]
            self.assert_row(chosen[0], "\n".join(changed) + "\n")


class Trials(unittest.TestCase):
    more = ["drop a", "sum new 0 2 1 2 3 a..", "scale k a 2", "show new", "", "dual k k"]

    def test_not_kept(self):
        journal = filled()
        before = snapshot(journal)
        with journal as trial:
            self.assertIs(trial, journal)
            self.assertEqual(trial.answer("drop a"), "ok")
            self.assertEqual(trial.answer("show a"), "unknown a")
            self.assertEqual(trial.record(), record_of(LINES + ["drop a", "show a"]))
            self.assertEqual(journal.lines(), LINES + ["drop a", "show a"])
        self.assertEqual(snapshot(journal), before)
        # It goes on from what it was.
        self.assertEqual(journal.answer("head a"), filled().answer("head a"))
        self.assertEqual(journal.record(), record_of(LINES + ["head a"]))

    def test_kept(self):
        for place in range(len(self.more) + 1):
            journal = filled()
            with journal as trial:
                for at, line in enumerate(self.more):
                    if at == place:
                        self.assertIsNone(trial.keep())
                    trial.answer(line)
                if place == len(self.more):
                    trial.keep()
            self.assertEqual(snapshot(journal), snapshot(filled(LINES + self.more)))
            self.assertEqual(journal.record(), record_of(LINES + self.more))

    def test_kept_twice(self):
        journal = filled()
        with journal as trial:
            trial.keep()
            trial.answer("drop a")
            trial.keep()
        self.assertEqual(journal.answer("show a"), "unknown a")

    def test_exceptions(self):
        class Told(Exception):
            pass

        for keep in (False, True):
            journal = filled()
            before = snapshot(journal)
            with self.assertRaises(Told):
                with journal as trial:
                    if keep:
                        trial.keep()
                    for line in self.more:
                        trial.answer(line)
                    raise Told()
            self.assertEqual(snapshot(journal), before)
            # The trial is over.
            self.assertRaises(OpenTrial, journal.keep)
            with journal:
                pass
            self.assertEqual(snapshot(journal), before)

    def test_exceptions_that_do_not_leave(self):
        journal = filled()
        with journal as trial:
            trial.answer("drop a")
            try:
                raise KeyError
            except KeyError:
                pass
            trial.keep()
        self.assertEqual(journal.answer("show a"), "unknown a")

    def test_trials_one_after_another(self):
        journal = Journal()
        done = []
        numbers = support.Numbers(96)
        for _ in range(30):
            line, keep = LINES[numbers.below(len(LINES))], numbers.below(2) == 0
            with journal as trial:
                trial.answer(line)
                if keep:
                    trial.keep()
                    done.append(line)
            self.assertEqual(journal.record(), record_of(done))

    def test_a_trial_within_a_trial(self):
        for keep in (False, True):
            journal = filled()
            with journal as trial:
                trial.answer("drop a")
                with self.assertRaises(OpenTrial):
                    with journal:
                        trial.answer("drop k")
                self.assertEqual(trial.record(), record_of(LINES + ["drop a"]))
                self.assertEqual(trial.answer("show a"), "unknown a")
                if keep:
                    trial.keep()
                with self.assertRaises(OpenTrial):
                    attempt(journal, ["drop k"], keep=True)
            self.assertEqual(journal.record(), record_of(LINES + (["drop a", "show a"] if keep else [])))

    def test_open_trials_that_leave(self):
        journal = filled()
        before = snapshot(journal)
        with self.assertRaises(OpenTrial):
            with journal as trial:
                trial.answer("drop a")
                trial.keep()
                with journal:
                    pass
        self.assertEqual(snapshot(journal), before)

    def test_trials_of_two_journals(self):
        one, other = filled(), filled()
        with one as first:
            with other as second:
                first.answer("drop a")
                second.answer("drop k")
                second.keep()
            self.assertEqual(other.record(), record_of(LINES + ["drop k"]))
            self.assertEqual(one.record(), record_of(LINES + ["drop a"]))
        self.assertEqual(one.record(), record_of(LINES))
        self.assertEqual(one.answer("show a"), filled().answer("show a"))
        self.assertEqual(other.answer("show k"), "unknown k")

    def test_keep_without_a_trial(self):
        journal = Journal()
        self.assertRaises(OpenTrial, journal.keep)
        with journal as trial:
            trial.answer("sum a 0 2 1 2")
        self.assertRaises(OpenTrial, journal.keep)
        self.assertEqual(journal.record(), "")

    def test_resumed_journals(self):
        journal = resume(record_of(LINES))
        with journal as trial:
            trial.answer("drop a")
        self.assertEqual(snapshot(journal), snapshot(filled()))


class Attempts(unittest.TestCase):
    def test_attempts(self):
        for keep in (False, True):
            journal = filled()
            due = Desk().answers(LINES + Trials.more)
            found = attempt(journal, Trials.more, keep=keep)
            self.assertEqual(found, (due[len(LINES):], record_of(LINES + Trials.more)))
            self.assertEqual(journal.record(), record_of(LINES + (Trials.more if keep else [])))
            self.assertEqual(snapshot(journal), snapshot(filled(LINES + (Trials.more if keep else []))))

    def test_without_keep(self):
        journal = Journal()
        self.assertEqual(attempt(journal, ["sum a 0 2 1 2 1 a..", "head a"]), (["1", "a.. 1"], "> sum a 0 2 1 2 1 a..\n< 1\n> head a\n< a.. 1\n"))
        self.assertEqual(journal.record(), "")
        self.assertEqual(journal.answer("head a"), "unknown a")
        self.assertEqual(attempt(journal, []), ([], "> head a\n< unknown a\n"))
        self.assertRaises(TypeError, attempt, journal, [], True)

    def test_lines_that_cannot_be_recorded(self):
        journal = Journal()
        self.assertEqual(attempt(journal, ["a\tb", "foo"], keep=True), (["bad", "bad"], "> foo\n< bad\n"))
        self.assertEqual(journal.lines(), ["foo"])

    def test_in_an_open_trial(self):
        journal = filled()
        with journal as trial:
            trial.answer("drop a")
            self.assertRaises(OpenTrial, attempt, journal, ["drop k"])
            trial.keep()
        self.assertEqual(journal.record(), record_of(LINES + ["drop a"]))

    def test_lists_stay(self):
        some = list(LINES)
        answers, _ = attempt(Journal(), some)
        answers.clear()
        self.assertEqual(some, LINES)
        self.assertEqual(text_of(desk_with(some).thing("k")), "0 2 ; 2 3 -1 a.a.. 1 aa...")


def desk_with(some):
    desk = Desk()
    desk.answers(some)
    return desk
