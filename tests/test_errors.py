import unittest

from graftworth import errors

PLAIN = [
    "NotNumber", "NotKinds", "NotTree", "NotSum", "NotBook", "NotPlacing", "NotMatrix", "NotWorld", "NotLeading",
    "BadNumber", "NoAnswer", "TooLarge", "OpenTrial",
]


class Errors(unittest.TestCase):
    def test_base(self):
        self.assertEqual(errors.GraftError.__bases__, (ValueError,))

    def test_every_class_is_directly_below_the_base(self):
        for name in PLAIN + ["Malformed", "BadJournal"]:
            self.assertEqual(getattr(errors, name).__bases__, (errors.GraftError,), name)

    def test_plain_ones_take_a_message(self):
        for name in PLAIN:
            with self.assertRaises(errors.GraftError) as caught:
                raise getattr(errors, name)("a message")
            self.assertEqual(str(caught.exception), "a message")

    def test_malformed_tells_where(self):
        for at in (0, 7, 10 ** 30):
            with self.assertRaises(errors.Malformed) as caught:
                raise errors.Malformed(at)
            self.assertEqual(caught.exception.at, at)

    def test_bad_journal_tells_the_row(self):
        for row in (0, 7, 10 ** 30):
            with self.assertRaises(errors.BadJournal) as caught:
                raise errors.BadJournal(row)
            self.assertEqual(caught.exception.row, row)
