"""The examples of DOC.md for what pieces tell, counts and rings, clerks, and walks, as they stand there."""

import unittest

from plain import CLOSES, EVEN, NONE, ODD, OPENS, SOME
from watchkinds.base.machines import Machine
from watchkinds.base.words import pieces
from watchkinds.counts.finding import clerk_for, counts_blur, first_clerk, is_clerk_for, sight, sights
from watchkinds.counts.rings import counts_words, is_alike, is_counts_blur, is_ring, met, side_sum, simple_rings
from watchkinds.pieces.finding import (are_told_by_pieces, is_pieces_clear, least_pieces, pieces_blur, pieces_clear,
                                       pieces_pair)
from watchkinds.turners.walks import (are_alike, back_steps, is_full_walk, is_row, is_turners_blur, is_walk, opposite,
                                      row_of, short, signed_steps, stand_in, turners_words, way)


class Examples(unittest.TestCase):
    def test_pieces(self):
        self.assertEqual(
            [are_told_by_pieces(SOME, NONE), are_told_by_pieces(CLOSES, ~CLOSES), pieces_clear(CLOSES, ~CLOSES),
             pieces_blur(SOME, NONE)],
            [True, False, None, None])
        self.assertEqual(
            [is_pieces_clear(SOME, NONE, ((0, 0), (1, 1))), is_pieces_clear(SOME, NONE, ((0, 0),)),
             least_pieces(SOME, NONE, 3), least_pieces(EVEN, ODD, 3), least_pieces(OPENS, NONE, 2)],
            [True, False, 1, None, 1])
        two = pieces_pair(CLOSES, ~CLOSES, 2)
        self.assertEqual(
            [two[0] in CLOSES, two[1] in CLOSES, pieces(two[0], 2) == pieces(two[1], 2), pieces_pair(SOME, NONE, 1)],
            [True, False, True, None])

    def test_rings(self):
        self.assertEqual(
            [met(SOME, "bba"), simple_rings(SOME, 1), simple_rings(EVEN, 0), is_ring(NONE, 0, "bb"),
             is_ring(NONE, 0, "")],
            [(0, 1), ('a', 'b'), ('b', 'aa'), True, False])
        self.assertEqual(
            [is_alike("ab", "caps", 2, "aaab", "baaaa"), is_alike("ab", "caps", 2, "a", "aa"),
             is_alike("ab", "sums", 3, "", "bbbbbb"), is_alike("ab", "clerks", 2, "aa", "aaaa"),
             is_alike("ab", "clerks", 3, "aaa", "aaaaa")],
            [True, False, True, True, False])
        blurred = ("counts", "ab", ("", ()), ("a", ((1, "a", -1),)))
        self.assertEqual(
            [is_counts_blur(NONE, SOME, "sums", blurred), is_counts_blur(NONE, SOME, "clerks", blurred),
             side_sum(SOME, blurred[3])],
            [True, False, (0, 0)])
        one, other = counts_words(NONE, SOME, "sums", blurred, 4)
        self.assertIs(is_alike("ab", "sums", 4, one, other), True)

    def test_clerks(self):
        self.assertEqual(
            [sight("ab", 2, 3, "aaaaab"), sights(NONE, 2, 1), sights(SOME, 1, 1), clerk_for(NONE, SOME, "sums", 12),
             is_clerk_for(NONE, SOME, "caps", (1, 1)), is_clerk_for(NONE, SOME, "sums", (0, 2))],
            [(2, 1), ((0, 0), (0, 1), (0, 2)), ((1, 0), (1, 1)), None, True, False])
        self.assertEqual(
            [first_clerk(NONE, SOME, "clerks", 3), counts_blur(NONE, SOME, "caps"),
             is_counts_blur(NONE, SOME, "sums", counts_blur(NONE, SOME, "sums"))],
            [(1, 1), None, True])

    def test_walks(self):
        many = Machine("ab", ((1, 3), (1, 2), (3, 3), (3, 3)), (2,))
        once = Machine("ab", ((2, 1), (2, 2), (2, 2)), (1,))
        walk = ((0, "a", 1), (1, "A", 1), (1, "b", 2))
        self.assertEqual(
            [short("abBAc"), opposite("abC"), are_alike("aA", ""), is_row("aB"), way(many, 0, 2), way(many, 2, 0),
             signed_steps(once)[:2]],
            ['c', 'cBA', True, True, 'ab', None, ((0, 'a', 2), (0, 'b', 1))])
        self.assertEqual(
            [is_full_walk(many, walk), row_of(many, walk), back_steps(many, walk), is_walk(many, ((1, "A", 0),)),
             stand_in(many, walk, 1), stand_in(many, walk, 3)],
            [True, 'aAb', (1,), False, 'ab', 'aaab'])
        self.assertEqual(
            [is_turners_blur(many, once, ("walks", walk, ((0, "b", 1),))), is_turners_blur(once, many, ("word", "b")),
             len(turners_words(many, once, ("walks", walk, ((0, "b", 1),)), 4))],
            [True, False, 2])


if __name__ == "__main__":
    unittest.main()
