"""Promise 8, and item 1 of promise 9: the tokens of a line, and its errors."""

import unittest

from skewer.errors import TextError
from skewer.lexer import tokens


class TokensTest(unittest.TestCase):
    def test_line_of_a_board(self):
        self.assertEqual(tokens("board 24", 1), [("word", "board", 1), ("number", "24", 7)])

    def test_line_of_a_way(self):
        expected = [
            ("word", "way", 1), ("word", "east", 5), ("number", "0", 10), ("number", "1", 12), ("sign", ";", 13),
            ("number", "3", 15), ("number", "10", 17),
        ]
        self.assertEqual(tokens("way east 0 1; 3 10", 2), expected)

    def test_line_of_a_program(self):
        expected = [
            ("word", "program", 1), ("word", "man", 9), ("number", "0", 13), ("sign", "=", 15), ("word", "row", 17),
            ("sign", "(", 20), ("word", "go", 21), ("word", "east", 24), ("sign", ",", 28), ("word", "empty", 30),
            ("sign", ")", 35),
        ]
        self.assertEqual(tokens("program man 0 = row(go east, empty)", 5), expected)

    def test_empty_line_and_line_of_spaces(self):
        self.assertEqual(tokens("", 1), [])
        self.assertEqual(tokens(" ", 1), [])
        self.assertEqual(tokens("     ", 7), [])

    def test_spaces_around_tokens_only_move_the_columns(self):
        self.assertEqual(tokens("   kind    man  ", 1), [("word", "kind", 4), ("word", "man", 12)])

    def test_each_sign(self):
        for sign in "=;,()":
            with self.subTest(sign=sign):
                self.assertEqual(tokens(sign, 1), [("sign", sign, 1)])
                self.assertEqual(tokens("a" + sign + "1", 1), [("word", "a", 1), ("sign", sign, 2), ("number", "1", 3)])

    def test_signs_side_by_side(self):
        expected = [("sign", sign, column) for column, sign in enumerate("()==;,((", start=1)]
        self.assertEqual(tokens("()==;,((", 1), expected)

    def test_words_and_numbers_side_by_side(self):
        expected = [("word", "man", 1), ("number", "0", 4), ("word", "king", 5), ("number", "12", 9)]
        self.assertEqual(tokens("man0king12", 1), expected)
        self.assertEqual(tokens("0a0", 1), [("number", "0", 1), ("word", "a", 2), ("number", "0", 3)])

    def test_key_words_are_words(self):
        self.assertEqual(tokens("nowhere", 1), [("word", "nowhere", 1)])

    def test_every_small_letter_and_every_digit(self):
        for letter in "abcdefghijklmnopqrstuvwxyz":
            self.assertEqual(tokens(letter, 1), [("word", letter, 1)])
        for digit in "0123456789":
            self.assertEqual(tokens(digit, 1), [("number", digit, 1)])

    def test_longest_words_and_numbers(self):
        self.assertEqual(tokens("abcdefghijkl", 1), [("word", "abcdefghijkl", 1)])
        self.assertEqual(tokens("abcdefghijkl123456z", 1)[1:], [("number", "123456", 13), ("word", "z", 19)])
        self.assertEqual(tokens("999999", 1), [("number", "999999", 1)])
        self.assertEqual(tokens("100000", 1), [("number", "100000", 1)])

    def test_zero_alone_and_zeros_inside(self):
        self.assertEqual(tokens("0", 1), [("number", "0", 1)])
        self.assertEqual(tokens("0 0", 1), [("number", "0", 1), ("number", "0", 3)])
        self.assertEqual(tokens("1001", 1), [("number", "1001", 1)])

    def test_the_list_is_new(self):
        first = tokens("kind man", 1)
        first.append("more")
        self.assertEqual(tokens("kind man", 1), [("word", "kind", 1), ("word", "man", 6)])

    def test_kinds_of_values(self):
        for token in tokens("way east 0 1; 2", 4):
            self.assertEqual([type(part) for part in token], [str, str, int])
            self.assertIs(type(token), tuple)


class ErrorsOfTokensTest(unittest.TestCase):
    def check(self, line, number, column, reason):
        with self.assertRaises(TextError) as caught:
            tokens(line, number)
        error = caught.exception
        self.assertEqual((error.line, error.column, error.reason), (number, column, reason))

    def test_character_that_begins_no_token(self):
        for sign in "AZ-+.:_#*/\\'\"[]{}<>!?@`~|^&$%\t\n\r\0\x7f\x0b\x0c":
            with self.subTest(sign=sign):
                self.check(sign, 3, 1, "character")
                self.check("kind man" + sign, 8, 9, "character")

    def test_characters_beyond_ascii(self):
        for sign in "\u00e4\u00e9\u00b2\u0663\uff11\u00a0\u2003\u03b1\U0001d7d8":
            with self.subTest(sign=sign):
                self.check("go " + sign, 1, 4, "character")
                self.check("go" + sign, 1, 3, "character")
                self.check("12" + sign, 1, 3, "character")

    def test_word_that_is_too_long(self):
        self.check("abcdefghijklm", 1, 1, "word")
        self.check("kind  abcdefghijklm", 4, 7, "word")
        self.check("kind " + "a" * 500, 4, 6, "word")

    def test_number_that_is_too_long(self):
        self.check("1000000", 1, 1, "number")
        self.check("way east 1 1234567 2", 2, 12, "number")
        self.check("9" * 500, 2, 1, "number")

    def test_zero_in_front(self):
        self.check("00", 1, 1, "number")
        self.check("board 01", 6, 7, "number")
        self.check("man012", 6, 4, "number")
        self.check("000000", 6, 1, "number")
        self.check("0000000", 6, 1, "number")

    def test_the_number_of_the_line_is_that_which_was_passed(self):
        for number in (1, 2, 77, 20000):
            self.check("kind Man", number, 6, "character")

    def test_first_of_several_wrong_pieces(self):
        self.check("ab ! 007 abcdefghijklm", 1, 4, "character")
        self.check("ab 007 ! abcdefghijklm", 1, 4, "number")
        self.check("ab abcdefghijklm ! 007", 1, 4, "word")
        self.check("abcdefghijklm!", 1, 1, "word")
        self.check("0123!", 1, 1, "number")
        self.check("abc!0123", 1, 4, "character")
        self.check("abcdefghijklm0123", 1, 1, "word")
        self.check("0123abcdefghijklm", 1, 1, "number")
        self.check("!?", 1, 1, "character")


if __name__ == "__main__":
    unittest.main()
