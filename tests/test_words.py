"""Words: each function held against a plain reading, at its edges, and with wrong values."""

import unittest

from watchkinds.base import words
from watchkinds.base.words import (MAX_LETTERS, all_words, counts, first_letters, is_letters, is_piece, is_word,
                                   last_letters, pieces, power)
from watchkinds.errors import InvalidNumber, InvalidOperation, InvalidWord

from plain import (VALUES, Argument, check_arguments, check_error, is_plain_letters, is_plain_word, number_from,
                   plain_pieces, words_up_to)

LETTERS = Argument("ab", is_plain_letters, InvalidOperation)
WORD = Argument("ab", is_plain_word, InvalidWord)


def number(good, least, most):
    return Argument(good, number_from(least, most), InvalidNumber, "value")


class Words(unittest.TestCase):
    def test_constant(self):
        self.assertEqual(MAX_LETTERS, 3)

    def test_is_letters_and_is_word(self):
        for value in VALUES:
            self.assertIs(is_letters(value), is_plain_letters(value), repr(value))
            self.assertIs(is_word(value), is_plain_word(value), repr(value))
        for value in ("a", "z", "az", "abz", "xyz", "abc"):
            self.assertIs(is_letters(value), True)
        for value in ("", "aa", "aab", "acb", "abcd", "Ab", "a ", "ab\n", "\nab", "a-", "`a", "a{", ("a",), ["a"]):
            self.assertIs(is_letters(value), False)
        for value in ("zyx" * 133, "q"):
            self.assertIs(is_word(value), True)
        for value in ("a\n", "\na", "Q", "aQa", "a.b", " ", b"a", ("a",)):
            self.assertIs(is_word(value), False)

    def test_all_words(self):
        for letters in ("a", "z", "ab", "by", "abc"):
            for most in range(8):
                self.assertEqual(list(all_words(letters, most)), words_up_to(letters, most))
        self.assertEqual(list(all_words("abc", 0)), [""])

    def test_power(self):
        for word in ("", "a", "ab", "zz"):
            for times in (0, 1, 2, 59, 60):
                self.assertEqual(power(word, times), "".join(word for _ in range(times)))

    def test_counts(self):
        for letters in ("a", "ab", "abc", "xz"):
            for word in words_up_to(letters, 5):
                self.assertEqual(counts(letters, word), tuple(sum(sign == letter for sign in word)
                                                              for letter in letters))

    def test_pieces(self):
        for word in words_up_to("abc", 5) + ["abcabcabc", "zyxwv", "hello", "aaaaaaaaaa", "abababababab"]:
            for most in range(5):
                self.assertEqual(list(pieces(word, most)), plain_pieces(word, most))
        many = "abcdefghijklmnopqrstuvwxyz" * 15 + "abcdefghij"
        self.assertEqual(len(pieces(many, 4)), 1 + 26 + 26 ** 2 + 26 ** 3 + 26 ** 4)

    def test_is_piece(self):
        for other in words_up_to("abc", 5):
            made = set(plain_pieces(other, 5))
            for word in words_up_to("abc", 4):
                self.assertIs(is_piece(word, other), word in made)
        self.assertIs(is_piece("a" * 400, "a" * 399), False)
        self.assertIs(is_piece("a" * 400, "ba" * 400), True)

    def test_ends_of_words(self):
        for word in words_up_to("ab", 5):
            for size in range(8):
                tails = [word[at:] for at in range(len(word) + 1) if len(word) - at == size]
                heads = [word[:at] for at in range(len(word) + 1) if at == size]
                self.assertEqual(last_letters(word, size), tails[0] if tails else word)
                self.assertEqual(first_letters(word, size), heads[0] if heads else word)
        self.assertEqual(last_letters("b" + "a" * 400, 400), "a" * 400)
        self.assertEqual(first_letters("a" * 400, 400), "a" * 400)
        self.assertEqual(last_letters("ab", 0), "")

    def test_same_pieces_and_counts(self):
        """[1.2], both sentences."""
        for most in range(4):
            for word in words_up_to("ab", 5):
                for other in words_up_to("ab", 5):
                    if pieces(word, most) == pieces(other, most):
                        for one, two in zip(counts("ab", word), counts("ab", other)):
                            self.assertTrue(one == two or min(one, two) >= most)
                    if is_piece(word, other):
                        self.assertLessEqual(set(pieces(word, most)), set(pieces(other, most)))


class WrongWords(unittest.TestCase):
    def test_wrong_arguments(self):
        check_arguments(self, lambda letters, most: next(all_words(letters, most)), [LETTERS, number(2, 0, 7)])
        check_arguments(self, power, [WORD, number(2, 0, 60)])
        check_arguments(self, counts, [LETTERS, WORD])
        check_arguments(self, pieces, [WORD, number(2, 0, 4)])
        check_arguments(self, is_piece, [WORD, WORD])
        check_arguments(self, last_letters, [WORD, number(2, 0, 400)])
        check_arguments(self, first_letters, [WORD, number(2, 0, 400)])

    def test_foreign_letters(self):
        for word in ("c", "abc", "z", "ba" * 100 + "y"):
            check_error(self, counts, ("ab", word), InvalidOperation)
        self.assertEqual(counts("abc", "abc"), (1, 1, 1))

    def test_errors_wait_for_the_first_value(self):
        waiting = all_words("ba", 99)
        with self.assertRaises(InvalidOperation):
            next(waiting)
        waiting = all_words("ab", 8)
        with self.assertRaises(InvalidNumber):
            list(waiting)

    def test_defined_in_the_module(self):
        for name in ("is_letters", "is_word", "all_words", "power", "counts", "pieces", "is_piece", "last_letters",
                     "first_letters"):
            self.assertEqual(getattr(words, name).__module__, "watchkinds.base.words")


if __name__ == "__main__":
    unittest.main()
