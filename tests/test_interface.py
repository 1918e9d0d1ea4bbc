"""The functions of the interface are defined in their modules, with the parameters that it names."""

import importlib
import inspect
import unittest

FUNCTIONS = {
    "watchkinds.rows.levels": """is_row_of(letters, value) resets_alone(letters, row) rearranges_alone(letters, row)
        stand_after(letters, row, word, *, times=1) stands(letters, row) row_box(letters, row)
        rows_beside(letters, one, other) is_row_paper(box, value)""",
    "watchkinds.rows.making": """image_sets(box) height(box, places) tiles(box, places) set_turns(box, places)
        row_paper(box)""",
    "watchkinds.ends.ends": """last_number(one, other) first_number(one, other) last_blur(one, other)
        first_blur(one, other) is_last_blur(one, other, value) is_first_blur(one, other, value)
        last_words(one, other, blur, number) first_words(one, other, blur, number) last_paper(one, other)
        first_paper(one, other) is_last_paper(one, other, value) is_first_paper(one, other, value)""",
    "watchkinds.pieces.blocks": """is_path(one, other, value) path_ends(one, other, path)
        is_pieces_blur(one, other, value) pieces_words(one, other, blur, number) ring_letters(machine, state)
        block_ends(machine, state, letters)""",
    "watchkinds.pieces.finding": """pieces_blur(one, other) pieces_clear(one, other) is_pieces_clear(one, other, value)
        are_told_by_pieces(one, other) least_pieces(one, other, most) pieces_pair(one, other, most)""",
    "watchkinds.counts.rings": """met(machine, word) simple_rings(machine, state) is_ring(machine, state, value)
        is_alike(letters, sort, number, word, other) is_counts_blur(one, other, sort, value) side_sum(machine, side)
        counts_words(one, other, sort, blur, number)""",
    "watchkinds.counts.finding": """sight(letters, cap, modulus, word) sights(machine, cap, modulus)
        counts_blur(one, other, sort) clerk_for(one, other, sort, most) is_clerk_for(one, other, sort, value)
        first_clerk(one, other, sort, most)""",
    "watchkinds.turners.walks": """is_row(value) opposite(row) short(row) are_alike(one, other)
        way(machine, one, other) signed_steps(machine) is_walk(machine, value) is_full_walk(machine, value)
        row_of(machine, walk) back_steps(machine, walk) stand_in(machine, walk, number)
        is_turners_blur(one, other, value) turners_words(one, other, blur, number)""",
}


class Interface(unittest.TestCase):
    def test_functions_and_their_parameters(self):
        for name, told in FUNCTIONS.items():
            module = importlib.import_module(name)
            for call in told.replace(")", ")\n").split("\n"):
                if call.strip():
                    function = getattr(module, call.strip().split("(")[0])
                    self.assertEqual(function.__module__, name)
                    self.assertEqual(function.__name__ + str(inspect.signature(function)), call.strip())


if __name__ == "__main__":
    unittest.main()
