"""Machine words, the words of a text, and numbers: points [2], [5] and [6]."""

import unittest

from blameless.words import combine, number_of, split_words

SOME_WORDS = (0, 1, 2, 3, 7, 10, 255, 256, 257, 32767, 32768, 32769, 65533, 65534, 65535)

# The sign, the two words and the value.
VALUES = (
    ("+", 0, 0, 0), ("+", 2, 5, 7), ("+", 5, 2, 7), ("+", 6, 6, 12), ("+", 9, 0, 9), ("+", 0, 9, 9),
    ("+", 65534, 1, 65535), ("+", 65535, 1, 0), ("+", 1, 65535, 0), ("+", 65535, 2, 1),
    ("+", 65535, 0, 65535), ("+", 65535, 65535, 65534), ("+", 65534, 65535, 65533), ("+", 32768, 32768, 0),
    ("-", 0, 0, 0), ("-", 5, 2, 3), ("-", 2, 5, 65533), ("-", 6, 6, 0), ("-", 9, 0, 9), ("-", 0, 9, 65527),
    ("-", 0, 1, 65535), ("-", 0, 65535, 1), ("-", 65535, 0, 65535), ("-", 65535, 65535, 0),
    ("-", 65534, 65535, 65535), ("-", 65535, 65534, 1), ("-", 1, 65535, 2), ("-", 65535, 1, 65534),
    ("*", 0, 0, 0), ("*", 2, 5, 10), ("*", 5, 2, 10), ("*", 6, 6, 36), ("*", 9, 0, 0), ("*", 0, 9, 0),
    ("*", 65535, 0, 0), ("*", 65535, 1, 65535), ("*", 1, 65535, 65535), ("*", 65535, 2, 65534),
    ("*", 65535, 65535, 1), ("*", 65534, 65535, 2), ("*", 256, 256, 0), ("*", 255, 257, 65535),
    ("*", 257, 256, 256), ("*", 300, 300, 24464),
    ("/", 0, 0, 0), ("/", 7, 2, 3), ("/", 2, 7, 0), ("/", 6, 6, 1), ("/", 6, 3, 2), ("/", 9, 0, 0), ("/", 0, 9, 0),
    ("/", 65535, 0, 0), ("/", 0, 65535, 0), ("/", 65535, 1, 65535), ("/", 65535, 2, 32767),
    ("/", 65535, 65535, 1), ("/", 65535, 65534, 1), ("/", 65534, 65535, 0), ("/", 1, 65535, 0),
    ("mod", 0, 0, 0), ("mod", 7, 2, 1), ("mod", 2, 7, 2), ("mod", 6, 6, 0), ("mod", 6, 3, 0),
    ("mod", 9, 0, 0), ("mod", 0, 9, 0), ("mod", 65535, 0, 0), ("mod", 0, 65535, 0), ("mod", 65535, 1, 0),
    ("mod", 65535, 2, 1), ("mod", 65535, 65535, 0), ("mod", 65535, 65534, 1), ("mod", 65534, 65535, 65534),
    ("mod", 1, 65535, 1),
    ("<", 0, 0, 0), ("<", 2, 5, 1), ("<", 5, 2, 0), ("<", 6, 6, 0), ("<", 9, 0, 0), ("<", 0, 9, 1),
    ("<", 65534, 65535, 1), ("<", 65535, 65534, 0), ("<", 65535, 65535, 0), ("<", 65535, 0, 0), ("<", 0, 65535, 1),
    ("<", 32767, 32768, 1), ("<", 32768, 32767, 0),
    ("=", 0, 0, 1), ("=", 2, 5, 0), ("=", 5, 2, 0), ("=", 6, 6, 1), ("=", 9, 0, 0), ("=", 0, 9, 0),
    ("=", 65535, 65535, 1), ("=", 65534, 65535, 0), ("=", 65535, 65534, 0), ("=", 65535, 0, 0), ("=", 0, 65535, 0),
)


def pairs():
    return [(left, right) for left in SOME_WORDS for right in SOME_WORDS]


class CombineTest(unittest.TestCase):
    def test_values(self):
        for sign, left, right, value in VALUES:
            with self.subTest(sign=sign, left=left, right=right):
                self.assertEqual(combine(sign, left, right), value)

    def test_the_example_of_the_document(self):
        self.assertEqual(combine("-", 2, 5), 65533)

    def test_every_value_is_a_word(self):
        for sign in ("+", "-", "*", "/", "mod", "<", "="):
            for left, right in pairs():
                with self.subTest(sign=sign, left=left, right=right):
                    value = combine(sign, left, right)
                    self.assertIs(type(value), int)
                    self.assertTrue(0 <= value <= 65535)

    def test_sums_differences_and_products_are_taken_modulo_65536(self):
        for left, right in pairs():
            with self.subTest(left=left, right=right):
                self.assertEqual((combine("+", left, right) - left - right) % 65536, 0)
                self.assertEqual((combine("-", left, right) - left + right) % 65536, 0)
                self.assertEqual((combine("*", left, right) - left * right) % 65536, 0)

    def test_division_and_remainder_belong_together(self):
        for left, right in pairs():
            quotient = combine("/", left, right)
            remainder = combine("mod", left, right)
            with self.subTest(left=left, right=right):
                if right == 0:
                    self.assertEqual((quotient, remainder), (0, 0))
                else:
                    self.assertEqual(quotient * right + remainder, left)
                    self.assertTrue(0 <= remainder < right)

    def test_exactly_one_of_less_equal_and_more(self):
        for left, right in pairs():
            answers = (combine("<", left, right), combine("=", left, right), combine("<", right, left))
            with self.subTest(left=left, right=right):
                self.assertEqual(sorted(answers), [0, 0, 1])
                self.assertEqual(answers[1], combine("=", right, left))


class SplitWordsTest(unittest.TestCase):
    def test_words_between_single_spaces(self):
        self.assertEqual(split_words("set l0 + l0 1"), ["set", "l0", "+", "l0", "1"])
        self.assertEqual(split_words("a"), ["a"])
        self.assertEqual(split_words("a b"), ["a", "b"])
        self.assertIs(type(split_words("a b")), list)

    def test_the_empty_text_has_no_words(self):
        self.assertEqual(split_words(""), [])

    def test_an_empty_word_at_each_strange_space(self):
        self.assertEqual(split_words(" a b"), ["", "a", "b"])
        self.assertEqual(split_words("a b "), ["a", "b", ""])
        self.assertEqual(split_words("a  b"), ["a", "", "b"])
        self.assertEqual(split_words("a   b"), ["a", "", "", "b"])
        self.assertEqual(split_words(" a  b "), ["", "a", "", "b", ""])

    def test_spaces_alone(self):
        self.assertEqual(split_words(" "), ["", ""])
        self.assertEqual(split_words("  "), ["", "", ""])

    def test_nothing_but_the_space_parts_words(self):
        self.assertEqual(split_words("a,b;c-d"), ["a,b;c-d"])
        self.assertEqual(split_words("a\tb\nc"), ["a\tb\nc"])

    def test_a_new_list_each_time(self):
        words = split_words("a b")
        words.append("c")
        self.assertEqual(split_words("a b"), ["a", "b"])
        words = split_words("")
        words.append("c")
        self.assertEqual(split_words(""), [])


class NumberOfTest(unittest.TestCase):
    def test_numbers(self):
        for number in (0, 1, 7, 9, 10, 42, 99, 100, 999, 1000, 9999, 10000, 60000, 65534, 65535):
            with self.subTest(number=number):
                self.assertEqual(number_of(str(number)), number)
                self.assertIs(type(number_of(str(number))), int)

    def test_every_word_that_writes_a_machine_word(self):
        wrong = [number for number in range(65536) if number_of(str(number)) != number]
        # Two long lists would be compared for minutes if they differed.
        self.assertEqual(wrong[:10], [])

    def assert_no_number(self, words):
        for word in words:
            with self.subTest(word=word):
                self.assertIsNone(number_of(word))

    def test_leading_zeros(self):
        self.assert_no_number(("00", "000", "00000", "000000", "07", "007", "01234", "0065535", "065535"))

    def test_above_65535(self):
        self.assert_no_number(("65536", "65537", "65540", "66000", "70000", "99999"))

    def test_six_digits_and_more(self):
        self.assert_no_number(("100000", "123456", "655350", "000001", "999999", "1" * 30, "9" * 6000, "0" * 6000))

    def test_the_empty_word(self):
        self.assert_no_number(("",))

    def test_signs(self):
        self.assert_no_number(("-", "+", "-0", "+0", "-1", "+1", "+7", "-65535", "1-", "1+", "- 1", "--1"))

    def test_letters(self):
        self.assert_no_number(("a", "x1", "1x", "1e3", "0x1", "0b1", "0o7", "l0", "ten", "1O", "None"))

    def test_other_characters_between_digits(self):
        self.assert_no_number(("1_0", "1 0", "1.0", "1,0", "1-0", "1+0", "1/0", "1:0", "1'0", "1_000"))

    def test_spaces_and_line_ends_around_digits(self):
        self.assert_no_number((" ", " 1", "1 ", "1\n", "\n1", "\t1", "1\r"))

    def test_digits_of_other_scripts(self):
        self.assert_no_number(("\u0661", "1\u0662", "\u00b2", "\uff11", "\u0967\u0968"))


if __name__ == "__main__":
    unittest.main()
