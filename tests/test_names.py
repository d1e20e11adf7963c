import unittest

from cellguard.names import is_name


class NamesTest(unittest.TestCase):
    def test_names(self):
        for text in ("a", "z", "land", "a1", "a-", "a--", "z9-0", "abcdefghijkl", "a0123456789-"):
            with self.subTest(text):
                self.assertIs(is_name(text), True)

    def test_every_character(self):
        for code in range(0, 400):
            character = chr(code)
            is_letter = character in "abcdefghijklmnopqrstuvwxyz"
            is_other = is_letter or character in "0123456789-"
            with self.subTest(code):
                self.assertIs(is_name(character), is_letter)
                self.assertIs(is_name("a" + character), is_other)
                self.assertIs(is_name("a" + character + "b"), is_other)

    def test_lengths(self):
        for length in range(0, 30):
            with self.subTest(length):
                self.assertIs(is_name("n" * length), 1 <= length <= 12)

    def test_first_character_is_a_letter(self):
        for text in ("1a", "-a", "0", "-", "9land"):
            with self.subTest(text):
                self.assertIs(is_name(text), False)

    def test_other_texts(self):
        for text in ("Land", "lanD", "la nd", " land", "land ", "land\n", "\nland", "land\r", "a_b", "a+b",
                     "a/b", "a:b", "a,b", "gr\u00fcn", "\u0430", "a\u0660", "a\u00b2", "\uff41", "a\u2010b", ""):
            with self.subTest(text):
                self.assertIs(is_name(text), False)
