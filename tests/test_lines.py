import unittest

from graftworth.lines import is_name, number_in, words_of
import support

SIGNS = [chr(code) for code in range(32, 127)]
OTHERS = ["\t", "\n", "\r", "\x00", "\x1f", "\x7f", "\x80", "\xa0", "\xe9", "\u0661", "\u2003", "\U0001f333"]


class Words(unittest.TestCase):
    def test_words_with_one_space_between_them(self):
        for words in (["a"], ["~"], ["!"], ["a", "b"], ["sum", "x", "0", "2", "2", "3", "1", "aa..."], ["-", ";", "\"", "'"], ["a"] * 50):
            self.assertEqual(words_of(" ".join(words)), words)
        numbers = support.Numbers(71)
        for _ in range(200):
            words = ["".join(SIGNS[numbers.between(1, 94)] for _ in range(numbers.between(1, 5))) for _ in range(numbers.between(1, 6))]
            self.assertEqual(words_of(" ".join(words)), words)

    def test_each_sign(self):
        for sign in SIGNS[1:]:
            self.assertEqual(words_of(sign), [sign])
            self.assertEqual(words_of("a" + sign + " b"), ["a" + sign, "b"])

    def test_malformed(self):
        for line in ("", " ", "  ", " a", "a ", " a b", "a b ", "a  b", "a   b", "a b  c", "  a", "a  "):
            self.assertIsNone(words_of(line))
        for sign in OTHERS:
            for line in (sign, "a" + sign, sign + "a", "a " + sign, sign + " a", "a" + sign + "b", "a b" + sign + "c d"):
                self.assertIsNone(words_of(line))

    def test_against_the_definition(self):
        numbers = support.Numbers(72)
        for _ in range(500):
            line = "".join(["a", " ", "~", "\t"][numbers.below(8) % 4 if numbers.below(9) == 0 else numbers.below(3)] for _ in range(numbers.below(7)))
            good = line != "" and line[0] != " " and line[-1] != " " and "  " not in line and "\t" not in line
            self.assertEqual(words_of(line), line.split() if good else None)


class Names(unittest.TestCase):
    def test_small_letters(self):
        for word in ("a", "z", "abcdefghijkl", "mnopqrstuvwx", "yz", "q" * 12):
            self.assertIs(is_name(word), True)
        for code in range(32, 127):
            self.assertIs(is_name(chr(code)), "a" <= chr(code) <= "z")
            self.assertIs(is_name("a" + chr(code)), "a" <= chr(code) <= "z")
            self.assertIs(is_name(chr(code) + "z"), "a" <= chr(code) <= "z")

    def test_wrong_words(self):
        for word in ("", "q" * 13, "q" * 100, "A", "aB", "a1", "a_", "a.", "\xe9", "a\xe9", "\u0430", " a"):
            self.assertIs(is_name(word), False)


class Integers(unittest.TestCase):
    def test_from_0_to_99(self):
        for whole in range(100):
            self.assertEqual(number_in(str(whole)), whole)
            self.assertIsInstance(number_in(str(whole)), int)

    def test_wrong_words(self):
        for whole in list(range(100, 120)) + [999, 1000, 10 ** 20, 10 ** 5000 // 10 ** 4990]:
            self.assertIsNone(number_in(str(whole)))
        for whole in range(10):
            self.assertIsNone(number_in("0" + str(whole)))
        for word in ("", "-1", "-0", "+1", "+", "-", "a", "1a", "a1", "1.", ".1", "1/", "00", "001", "010", "1_0", "0x", " 1", "1 ", "\u0661", "1\u0662", "\xb2", "9" * 5000):
            self.assertIsNone(number_in(word))
