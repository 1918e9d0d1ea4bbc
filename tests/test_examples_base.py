"""The examples of DOC.md for words, machines and machines joined, as they stand there."""

import unittest

from watchkinds.base.joined import (are_same, behind, chained, common_word, first_difference, is_order_free, knots,
                                    mirrored, of_words, renamed, repeated, state_words)
from watchkinds.base.machines import Machine
from watchkinds.base.words import (all_words, counts, first_letters, is_letters, is_piece, is_word, last_letters,
                                   pieces, power)

EVEN = Machine("ab", ((1, 0), (0, 1)), (0,))


class Examples(unittest.TestCase):
    def test_words(self):
        self.assertEqual(
            [is_letters("abc"), is_letters("ba"), is_word(""), counts("ab", "abaa"), list(all_words("b", 2)),
             power("ab", 2), last_letters("abc", 2), first_letters("abc", 9)],
            [True, False, True, (3, 1), ['', 'b', 'bb'], 'abab', 'bc', 'abc'])
        self.assertEqual(
            [pieces("aba", 2), pieces("ab", 0), is_piece("aa", "aba"), is_piece("ba", "ab"), is_piece("", "b")],
            [('', 'a', 'b', 'aa', 'ab', 'ba'), ('',), True, False, True])

    def test_machines(self):
        self.assertEqual(
            [EVEN.after("a", times=10 ** 11), "ab" in EVEN, EVEN.first_word(), list((~EVEN).words(1)),
             len(EVEN | ~EVEN), (EVEN & ~EVEN).is_empty, str(EVEN)],
            [0, False, '', ['a'], 1, True, 'machine of 2 states, 1 ends'])

    def test_joined(self):
        pairs = repeated(of_words("ab", ("ab",)))
        self.assertEqual(
            [list(pairs.words(4)), list(mirrored(pairs).words(2)), behind(pairs, "a").first_word(),
             state_words(pairs), knots(pairs), is_order_free(pairs), is_order_free(EVEN)],
            [['', 'ab', 'abab'], ['', 'ba'], 'b', {0: '', 1: 'a', 2: 'b'}, ((0, 1), (2,)), False, True])
        self.assertEqual(
            [common_word(EVEN, pairs), first_difference(EVEN, pairs), are_same(chained(pairs, pairs), pairs),
             list(renamed(pairs, {"a": "z", "b": "a"}).words(2)), common_word(of_words("ab", ("a",)), EVEN)],
            ['', 'b', True, ['', 'za'], None])

    def test_machines_of_all_examples(self):
        shown = {
            "EVEN": (EVEN, lambda word: word.count("a") % 2 == 0),
            "ODD": (Machine("ab", ((1, 0), (0, 1)), (1,)), lambda word: word.count("a") % 2 == 1),
            "CLOSES": (Machine("ab", ((1, 0), (1, 0)), (1,)), lambda word: word.endswith("a")),
            "OPENS": (Machine("ab", ((1, 2), (1, 1), (2, 2)), (1,)), lambda word: word.startswith("a")),
            "SOME": (Machine("ab", ((1, 0), (1, 1)), (1,)), lambda word: "a" in word),
            "NONE": (Machine("ab", ((1, 0), (1, 1)), (0,)), lambda word: "a" not in word),
        }
        for name, (machine, has) in shown.items():
            self.assertEqual([word in machine for word in all_words("ab", 5)],
                             [has(word) for word in all_words("ab", 5)], name)


if __name__ == "__main__":
    unittest.main()
