"""The functions of the interface are defined in their modules, with the parameters that it names."""

import importlib
import inspect
import unittest

FUNCTIONS = {
    "watchkinds.base.words": """is_letters(value) is_word(value) all_words(letters, most) power(word, times)
        counts(letters, word) pieces(word, most) is_piece(word, other) last_letters(word, number)
        first_letters(word, number)""",
    "watchkinds.base.joined": """of_words(letters, words) chained(one, other) repeated(machine) mirrored(machine)
        behind(machine, word) renamed(machine, letters) common_word(one, other) first_difference(one, other)
        are_same(one, other) state_words(machine) knots(machine) is_order_free(machine)""",
    "watchkinds.boxes.sights": """places(machine, box) word_to(machine, box, place) tells_apart(one, other, box)
        alike_pair(one, other, box) is_alike_pair(one, other, box, value) is_seen(machine, box, word)
        apart_paper(one, other, box) is_apart_paper(one, other, box, value) guesses_of(box, machines, word)
        box_groups(box, machines)""",
    "watchkinds.ladder.sorts": """is_sort(value) is_below(sort, other) uppers(sort) lowers(sort) joined(sort, other)
        least_of(sorts) is_up_set(value)""",
    "watchkinds.ladder.checks": """is_of(box, sort) sorts_of(box) number_of(box, sort) bar(box, sort)
        is_bar(box, sort, value)""",
    "watchkinds.rows.levels": """is_row_of(letters, value) resets_alone(letters, row) rearranges_alone(letters, row)
        stand_after(letters, row, word, *, times=1) stands(letters, row) row_box(letters, row)
        rows_beside(letters, one, other) is_row_paper(box, value)""",
    "watchkinds.rows.making": """image_sets(box) height(box, places) tiles(box, places) set_turns(box, places)
        row_paper(box)""",
    "watchkinds.ends.ends": """last_number(one, other) first_number(one, other) last_blur(one, other)
        first_blur(one, other) is_last_blur(one, other, value) is_first_blur(one, other, value)
        last_words(one, other, blur, number) first_words(one, other, blur, number) last_paper(one, other)
        first_paper(one, other) is_last_paper(one, other, value) is_first_paper(one, other, value)""",
    "watchkinds.pieces.blocks": """is_path(one, other, value) path_ends(one, other, path)
        is_pieces_blur(one, other, value) pieces_words(one, other, blur, number) ring_letters(machine, state)
        block_ends(machine, state, letters)""",
    "watchkinds.pieces.finding": """pieces_blur(one, other) pieces_clear(one, other) is_pieces_clear(one, other, value)
        are_told_by_pieces(one, other) least_pieces(one, other, most) pieces_pair(one, other, most)""",
    "watchkinds.counts.rings": """met(machine, word) simple_rings(machine, state) is_ring(machine, state, value)
        is_alike(letters, sort, number, word, other) is_counts_blur(one, other, sort, value) side_sum(machine, side)
        counts_words(one, other, sort, blur, number)""",
    "watchkinds.counts.finding": """sight(letters, cap, modulus, word) sights(machine, cap, modulus)
        counts_blur(one, other, sort) clerk_for(one, other, sort, most) is_clerk_for(one, other, sort, value)
        first_clerk(one, other, sort, most)""",
    "watchkinds.turners.walks": """is_row(value) opposite(row) short(row) are_alike(one, other)
        way(machine, one, other) signed_steps(machine) is_walk(machine, value) is_full_walk(machine, value)
        row_of(machine, walk) back_steps(machine, walk) stand_in(machine, walk, number)
        is_turners_blur(one, other, value) turners_words(one, other, blur, number)""",
    "watchkinds.turners.finding": """null_pairs(machine) null_walk(machine, one, other) are_told_by_turners(one, other)
        turners_blur(one, other) turners_clear(one, other) is_turners_clear(one, other, value)
        is_in_shadow(machine, word) shadow(machine, most) turner_for(one, other, most)""",
    "watchkinds.latches.images": """map_of(one, other, word) is_map(one, other, value) maps_of_words(one, other)
        first_words_of_maps(one, other) behind_map(one, other, left, right) map_rounds(one, other, map_)
        map_hits(one, other, map_)""",
    "watchkinds.latches.papers": """is_cloud(one, other, value) cloud_behind(one, other, left, right)
        often(one, other, cloud) often_number(one, other, cloud) is_bad_cloud(one, other, cloud)
        recipe_clouds(one, other, recipe) is_recipe(one, other, value) is_latches_blur(one, other, value)
        is_latches_clear(one, other, value)""",
    "watchkinds.latches.finding": """greatest_clouds(one, other) latches_blur(one, other) latches_clear(one, other)
        are_told_by_latches(one, other) latches_words(one, other, blur, number)
        latch_word(one, other, recipe, map_, number)""",
    "watchkinds.turning.papers": """tells(one, other, sort) blur_of(one, other, sort) is_blur(one, other, sort, value)
        words_against(one, other, sort, blur, number) turned(one, other, sort, blur, lower)""",
    "watchkinds.turning.kinds": """kinds(one, other) least_kinds(one, other) kind_paper(one, other)
        is_kind_paper(one, other, value) shown_pair(sort)""",
    "watchkinds.turning.families": """apart_pairs(machines, sort) kind_groups(machines, sort)
        is_watcher_for(machines, sort, value) joined_watcher(boxes) family_kinds(machines)""",
    "watchkinds.text.formats": """write_machine(machine) write_box(box) write_row(letters, row) write_blur(blur)
        read_machine(text) read_box(text) read_row(text) read_blur(text) is_blur_text(value)""",
}

ERRORS = {"WatchError": ValueError, "InvalidWord": "WatchError", "InvalidMachine": "WatchError",
          "InvalidBox": "WatchError", "InvalidOperation": "WatchError", "ParseError": "WatchError",
          "UnknownName": KeyError, "InvalidNumber": RuntimeError, "TooMany": OverflowError,
          "NothingToUndo": IndexError, "Refused": ArithmeticError}

METHODS = {
    ("watchkinds.base.machines", "Machine"): """__init__(self, letters, table, ends=()) after(self, word, *, times=1)
        words(self, most) first_word(self) least(self) __invert__(self) __or__(self, other) __and__(self, other)
        __sub__(self, other) __contains__(self, x) __len__(self) __eq__(self, other) __str__(self)""",
    ("watchkinds.boxes.boxes", "Box"): """__init__(self, letters, table) window(letters, size) heads(letters, size)
        pieces(letters, most) caps(letters, most) rests(letters, modulus) clerk(letters, cap, modulus)
        __call__(self, word) place(self, word, start, *, times=1) action(self, word) first_word(self, place) lean(self)
        machine(self, places) __and__(self, other) __len__(self) __eq__(self, other) __str__(self)""",
    ("watchkinds.room.room", "Room"): """__init__(self, letters) add_machine(self, name, machine)
        drop_machine(self, name) add_watcher(self, name, box) drop_watcher(self, name) read(self, word, *, times=1)
        restart(self) guesses(self, name) shared_guesses(self) joint_guesses(self) doubts(self, name)
        joint_doubts(self) __getitem__(self, at) __contains__(self, x) __iter__(self) __len__(self)
        __eq__(self, other) __str__(self) undo(self, *, many=1) redo(self, *, many=1) attempt(self)
        during(self, call) twin(self)""",
}

PROPERTIES = {"Machine": "letters table ends is_empty is_full", "Box": "letters table",
              "Room": "letters machines watchers places"}

CLASSES = sorted([("watchkinds.errors", name) for name in ERRORS] + list(METHODS))

CONSTANTS = {
    "watchkinds.base.words": {"MAX_LETTERS": 3},
    "watchkinds.base.machines": {"MAX_STATES": 4, "MAX_TIMES": 10 ** 11},
    "watchkinds.boxes.boxes": {"MAX_PLACES": 6, "MAX_MADE": 400},
    "watchkinds.ladder.sorts": {"SORTS": ("last", "first", "caps", "sums", "clerks", "pieces", "latches", "turners",
                                          "any")},
    "watchkinds.ladder.checks": {"MAX_ACTIONS": 2000},
    "watchkinds.rows.levels": {"MAX_VALUES": 12, "MAX_STANDS": 1000},
    "watchkinds.rows.making": {"MAX_ROWED": 5},
    "watchkinds.ends.ends": {"MAX_NUMBER": 400},
    "watchkinds.pieces.blocks": {"MAX_STEPS": 60},
    "watchkinds.pieces.finding": {"MAX_PIECES": 3},
    "watchkinds.counts.rings": {"COUNT_SORTS": ("caps", "sums", "clerks"), "MAX_NUMBER": 6, "MAX_LENGTH": 100000},
    "watchkinds.counts.finding": {"MAX_SEARCHED": 4, "MAX_CLERK": 12},
    "watchkinds.turners.walks": {"MAX_LENGTH": 100000},
    "watchkinds.turners.finding": {"MAX_TRIED": 4},
    "watchkinds.latches.images": {"MAX_READINGS": 64},
    "watchkinds.latches.finding": {"MAX_LENGTH": 100000, "MAX_NUMBER": 6},
    "watchkinds.turning.families": {"MAX_FAMILY": 5},
    "watchkinds.room.room": {"MAX_MACHINES": 8, "MAX_WATCHERS": 6, "MAX_JOINT": 20000},
}


class Interface(unittest.TestCase):
    """The parameter `map` of [16.2] and [18.2] has the name of a builtin, which LANGUAGE.md bars: it is `map_`."""

    def calls(self, told):
        return [call.strip() for call in told.replace(")", ")\n").split("\n") if call.strip()]

    def test_functions_and_their_parameters(self):
        for name, told in FUNCTIONS.items():
            module = importlib.import_module(name)
            for call in self.calls(told):
                function = getattr(module, call.split("(")[0])
                self.assertEqual(function.__module__, name)
                self.assertEqual(function.__name__ + str(inspect.signature(function)), call)

    def test_classes_and_their_methods(self):
        for (name, class_name), told in METHODS.items():
            made = getattr(importlib.import_module(name), class_name)
            self.assertEqual(made.__module__, name)
            for call in self.calls(told.replace("ends=()", "ends=[]")):
                call = call.replace("ends=[]", "ends=()")
                method = call.split("(")[0]
                self.assertIn(method, vars(made))
                self.assertEqual(method + str(inspect.signature(getattr(made, method))), call)
            for method in PROPERTIES[class_name].split():
                self.assertIsInstance(vars(made)[method], property)

    def test_errors(self):
        module = importlib.import_module("watchkinds.errors")
        for name, base in ERRORS.items():
            made = getattr(module, name)
            self.assertEqual(made.__bases__, (base if isinstance(base, type) else getattr(module, base),))
            self.assertEqual(made.__module__, "watchkinds.errors")

    def test_constants(self):
        for name, told in CONSTANTS.items():
            module = importlib.import_module(name)
            for constant, value in told.items():
                self.assertEqual((getattr(module, constant), type(getattr(module, constant))), (value, type(value)))


if __name__ == "__main__":
    unittest.main()
