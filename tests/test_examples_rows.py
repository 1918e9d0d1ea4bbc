"""The examples of DOC.md for rows, rows made, last and first letters, and blocks of letters, as they stand there."""

import unittest

from plain import CLOSES, EVEN, ODD, OPENS, SOME
from watchkinds.base.words import last_letters, pieces
from watchkinds.boxes.boxes import Box
from watchkinds.ends.ends import (first_number, is_first_blur, is_last_blur, is_last_paper, last_number, last_paper,
                                  last_words)
from watchkinds.pieces.blocks import block_ends, is_path, is_pieces_blur, path_ends, pieces_words, ring_letters
from watchkinds.rows.levels import (is_row_of, is_row_paper, rearranges_alone, resets_alone, row_box, rows_beside,
                                    stand_after, stands)
from watchkinds.rows.making import height, image_sets, row_paper, set_turns, tiles


class Examples(unittest.TestCase):
    def test_levels(self):
        seen, odd = Box("ab", ((1, 0), (1, 1))), Box("ab", ((1, 0), (0, 1)))
        latch, turn = ((2, 0, ({(): 1}, {})),), ((3, 0, ({(): (1, 2, 0)}, {})),)
        both = ((2, 0, ({(): 1}, {})), (2, 0, ({(1,): (1, 0)}, {})))
        self.assertEqual(
            [is_row_of("ab", both), resets_alone("ab", latch), rearranges_alone("ab", both),
             stand_after("ab", turn, "aba"), stand_after("ab", turn, "a", times=10 ** 11), stands("ab", both),
             row_box("ab", both).table],
            [True, True, False, (2,), (1,), ((0, 0), (1, 0), (1, 1)), ((1, 0), (2, 1), (1, 2))])
        self.assertEqual(
            [is_row_paper(seen, (latch, (0, 1))), is_row_paper(odd, (((2, 0, ({(): (1, 0)}, {})),), (0, 1))),
             is_row_paper(seen, (both, (0, 1, 1))), rows_beside("ab", latch, turn)[1]],
            [True, True, True, (3, 0, ({(0,): (1, 2, 0), (1,): (1, 2, 0)}, {}))])

    def test_making(self):
        odd, end = Box("ab", ((1, 0), (0, 1))), Box("ab", ((1, 2), (1, 2), (1, 2)))
        three = Box("ab", ((1, 0), (1, 2), (2, 2)))
        self.assertEqual(
            [image_sets(three), [height(three, places) for places in image_sets(three)], tiles(three, (0, 1, 2)),
             set_turns(odd, (0, 1)), set_turns(three, (1, 2))],
            [((0,), (0, 1, 2), (0, 2), (1,), (1, 2), (2,)), [0, 3, 2, 0, 1, 0], ((0, 2), (1, 2)), ((0, 1), (1, 0)),
             ((1, 2),)])
        self.assertEqual(
            [is_row_paper(three, row_paper(three)), resets_alone("ab", row_paper(three)[0]),
             rearranges_alone("ab", row_paper(odd)[0]), is_row_paper(end, row_paper(end))],
            [True, True, True, True])

    def test_ends(self):
        self.assertEqual(
            [last_number(CLOSES, ~CLOSES), first_number(CLOSES, ~CLOSES), first_number(OPENS, ~OPENS),
             last_number(EVEN, ODD)],
            [1, None, 1, None])
        blur = ("end", "", "a", "b", "")
        two = last_words(EVEN, ODD, blur, 3)
        self.assertEqual(
            [is_last_blur(EVEN, ODD, blur), is_last_blur(ODD, EVEN, blur), two[0] in EVEN, two[1] in ODD,
             last_letters(two[0], 3) == last_letters(two[1], 3)],
            [True, False, True, True, True])
        self.assertEqual(
            [is_first_blur(CLOSES, ~CLOSES, ("begin", "", "b", "a", "")),
             is_last_paper(CLOSES, ~CLOSES, ("number", 1, ((0, 0), (1, 1)))),
             is_last_paper(CLOSES, ~CLOSES, ("number", 0, ((0, 0), (1, 1)))), last_paper(EVEN, ODD)[0]],
            [True, True, False, 'blur'])

    def test_blocks(self):
        path = (("block", ("", "ab", "a"), ("", "ab", "")),)
        self.assertEqual(
            [is_path(CLOSES, ~CLOSES, path), path_ends(CLOSES, ~CLOSES, path),
             is_pieces_blur(CLOSES, ~CLOSES, ("blocks", path)), is_pieces_blur(~CLOSES, CLOSES, ("blocks", path))],
            [True, (1, 0), True, False])
        two = pieces_words(CLOSES, ~CLOSES, ("blocks", path), 3)
        self.assertEqual(
            [two[0] in CLOSES, two[1] in CLOSES, pieces(two[0], 3) == pieces(two[1], 3), ring_letters(CLOSES, 0),
             block_ends(CLOSES, 0, "ab"), block_ends(CLOSES, 0, "b"), block_ends(SOME, 0, "ab")],
            [True, False, True, ('ab', 'b'), (0, 1), (0,), (1,)])


if __name__ == "__main__":
    unittest.main()
