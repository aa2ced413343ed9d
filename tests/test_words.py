import string
import unittest

from fewprobes.words import is_word
from samples import odd_values

RESERVED = "again call catch else fun if leave over print raise read rest return try while".split()


class Words(unittest.TestCase):
    """[4], [15]"""

    def test_small_letters_and_digits_of_a_right_length(self):
        for text in ["a", "z", "a0", "z9", "abc", "t0", "s12", "x1y2", "a" * 30, "a" + "9" * 29]:
            with self.subTest(text):
                self.assertIs(is_word(text), True)

    def test_each_small_letter_may_stand_anywhere_and_each_digit_behind(self):
        for sign in string.ascii_lowercase:
            self.assertIs(is_word(sign), True)
            self.assertIs(is_word("q" + sign), True)
        for sign in string.digits:
            self.assertIs(is_word(sign), False)
            self.assertIs(is_word("q" + sign), True)

    def test_too_short_and_too_long(self):
        for text in ["", "a" * 31, "a" + "1" * 30, "a" * 1000]:
            with self.subTest(text):
                self.assertIs(is_word(text), False)

    def test_the_first_is_a_letter(self):
        for text in ["0", "1a", "9" * 30, "0x"]:
            with self.subTest(text):
                self.assertIs(is_word(text), False)

    def test_other_signs(self):
        for sign in [chr(k) for k in range(32, 127)] + ["\n", "\t"]:
            if sign in string.ascii_lowercase + string.digits:
                continue
            for text in [sign, "a" + sign, sign + "a", "a" + sign + "a"]:
                with self.subTest(text):
                    self.assertIs(is_word(text), False)

    def test_letters_and_digits_beyond_ascii(self):
        for text in ["\u00e9", "a\u00e9", "a\u00b2", "a\u0663", "\u03b1", "a\uff41"]:
            with self.subTest(ascii(text)):
                self.assertIs(is_word(text), False)

    def test_reserved_words(self):
        self.assertEqual(len(RESERVED), 15)
        for text in RESERVED:
            with self.subTest(text):
                self.assertIs(is_word(text), False)
                self.assertIs(is_word(text + "x"), True)
                self.assertIs(is_word(text + "0"), True)
                self.assertIs(is_word("x" + text), True)

    def test_words_of_other_points_are_not_reserved(self):
        for text in ["program", "source", "set", "copy", "deed", "count", "go", "test", "yes", "no", "value",
                     "fault", "plus", "minus", "times", "less", "same", "number", "name", "main", "end", "cut"]:
            with self.subTest(text):
                self.assertIs(is_word(text), True)

    def test_what_is_no_string(self):
        for value in odd_values():
            if not isinstance(value, str):
                with self.subTest(repr(value)):
                    self.assertIs(is_word(value), False)

    def test_by_name(self):
        self.assertIs(is_word(value="a"), True)
