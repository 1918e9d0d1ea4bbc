"""The examples of DOC.md for boxes, what they see, sorts, and tests of boxes, as they stand there."""

import unittest

from watchkinds.base.machines import Machine
from watchkinds.boxes.boxes import Box
from watchkinds.boxes.sights import (apart_paper, box_groups, guesses_of, is_alike_pair, is_seen, places, tells_apart,
                                     word_to)
from watchkinds.ladder.checks import bar, is_bar, number_of, sorts_of
from watchkinds.ladder.sorts import is_below, is_up_set, joined, least_of, lowers, uppers


class Examples(unittest.TestCase):
    def test_all_examples(self):
        latch, switch = Box("ab", ((1, 0), (1, 1))), Box("ab", ((1, 0), (0, 1)))
        for word, has, odd in (("", 0, 0), ("b", 0, 0), ("ab", 1, 1), ("baab", 1, 0), ("aba", 1, 0), ("aaa", 1, 1)):
            self.assertEqual((latch(word), switch(word)), (has, odd))

    def test_boxes(self):
        self.assertEqual(
            [Box.window("ab", 1).table, len(Box.window("ab", 2)), Box.heads("ab", 1).table, len(Box.pieces("ab", 1)),
             Box.caps("ab", 2)("abaa") == Box.caps("ab", 2)("aaaab"), len(Box.clerk("a", 2, 2))],
            [((1, 2), (1, 2), (1, 2)), 7, ((1, 2), (1, 1), (2, 2)), 4, True, 4])
        self.assertEqual(
            [Box.clerk("ab", 1, 2) == Box.caps("ab", 1) & Box.rests("ab", 2),
             Box.rests("a", 3).place("a", 2, times=10 ** 11), Box.heads("ab", 1).first_word(2),
             str(Box.rests("ab", 2))],
            [True, 0, 'b', 'box of 4 places for ab'])

    def test_sights(self):
        odd, even = Machine("a", ((1,), (0,)), (1,)), Machine("a", ((1,), (0,)), (0,))
        self.assertEqual(
            [places(odd, Box.rests("a", 4)), tells_apart(odd, even, Box.rests("a", 3)),
             word_to(odd, Box.rests("a", 3), 0), is_alike_pair(odd, even, Box.rests("a", 3), ("aaa", "")),
             apart_paper(odd, even, Box.rests("a", 2))],
            [(1, 3), False, 'aaa', True, (((0, 0), (1, 1)), ((0, 0), (1, 1)))])
        self.assertEqual(
            [is_seen(odd, Box.caps("a", 2), "aaaa"), guesses_of(Box.rests("a", 2), (odd, even), "aa"),
             box_groups(Box.caps("a", 1), (odd, even)), box_groups(Box.rests("a", 2), (odd, even))],
            [True, (1,), ((0, 1),), ((0,), (1,))])

    def test_sorts(self):
        self.assertEqual(
            [is_below("caps", "latches"), is_below("sums", "latches"), uppers("caps"), lowers("clerks"),
             joined("caps", "sums"), joined("last", "first"), joined("pieces", "sums")],
            [True, False, ('caps', 'clerks', 'pieces', 'latches', 'any'), ('caps', 'sums', 'clerks'), 'clerks',
             'latches', 'any'])
        self.assertEqual(
            [least_of(("any", "latches", "caps", "turners")), is_up_set(("latches", "any")),
             is_up_set(("caps", "any"))],
            [('caps', 'turners'), True, False])

    def test_checks(self):
        seen, odd, end = (Box("ab", ((1, 0), (1, 1))), Box("ab", ((1, 0), (0, 1))),
                          Box("ab", ((1, 2), (1, 2), (1, 2))))
        self.assertEqual(
            [sorts_of(seen), sorts_of(odd), sorts_of(end)],
            [('caps', 'clerks', 'pieces', 'latches', 'any'), ('sums', 'clerks', 'turners', 'any'),
             ('last', 'latches', 'any')])
        self.assertEqual(
            [number_of(seen, "caps"), number_of(odd, "sums"), number_of(odd, "clerks"), number_of(end, "last"),
             number_of(end, "latches"), number_of(end, "first")],
            [1, 2, 2, 1, 1, None])
        self.assertEqual(
            [is_bar(seen, "last", ("rings", 0, "", "a", "b")), is_bar(end, "clerks", ("swap", 0, "a", "b")),
             is_bar(end, "pieces", ("ring", 1, "b", "a")), is_bar(odd, "caps", ("turn", 0, "a")),
             bar(seen, "turners"), bar(seen, "pieces")],
            [True, True, True, True, ('merge', 0, 1, 'a'), None])


if __name__ == "__main__":
    unittest.main()
