import unittest

from linkneed.kinds import is_integer, is_number, is_title, is_word
from tests.samples import ODD_VALUES

KEPT = (
    "unit shape use function take gives end let set if else loop when case tell give number name call word add sub mul "
    "div rem less same").split()


class KindsTest(unittest.TestCase):
    def test_integers(self):
        for thing in (0, 1, -1, 65535, 10 ** 60, -10 ** 60):
            self.assertIs(is_integer(thing), True)
        for thing in (True, False, None, "1", (1,), [1], ()):
            self.assertIs(is_integer(thing), False)

    def test_numbers(self):
        self.assertEqual([is_number(0), is_number(7), is_number(10 ** 60)], [True] * 3)
        for thing in (-1, -10 ** 60, True, False, None, "0", (0,), [0]):
            self.assertIs(is_number(thing), False)

    def test_words(self):
        self.assertEqual([is_word(0), is_word(65535), is_word(65536), is_word(-1)], [True, True, False, False])
        for thing in (True, False, None, "0", (0,), [0]):
            self.assertIs(is_word(thing), False)

    def test_titles(self):
        for thing in ("a", "main", "x1", "abcdefghijkl", "a23456789012", "words", "giv", "ends", "gives1"):
            self.assertIs(is_title(thing), True, thing)
        for thing in ("", "abcdefghijklm", "1a", "A", "aB", "a b", "a_b", "a\n", " a", "a-", 7, None, True, ("a",), ["a"]):
            self.assertIs(is_title(thing), False, thing)

    def test_kept_words_are_no_titles(self):
        self.assertEqual(len(KEPT), 27)
        for word in KEPT:
            self.assertIs(is_title(word), False, word)
            self.assertIs(is_title(word + "z"), True, word)

    def test_any_value(self):
        for check in (is_integer, is_number, is_word, is_title):
            for thing in ODD_VALUES:
                self.assertIsInstance(check(thing), bool)
            self.assertIs(check(thing=()), False)


if __name__ == "__main__":
    unittest.main()
