"""What the document promises over the whole program: equal results, arguments left alone, answers to any value."""

import copy
import importlib
import inspect
import itertools
import random
import re
import unittest

from plain import (CLOSES, EVEN, LATCH, NONE, ODD, OPENS, SOME, SWITCH, VALUES, check_small, deep, is_box, is_machine,
                   led_to, random_machine, some_boxes, some_machines, words_up_to)
from test_examples import all_names
from test_interface import FUNCTIONS
from watchkinds.base.machines import Machine
from watchkinds.boxes.boxes import Box
from watchkinds.boxes.sights import tells_apart
from watchkinds.counts.finding import first_clerk
from watchkinds.errors import TooMany, WatchError
from watchkinds.ladder.checks import is_of, sorts_of
from watchkinds.ladder.sorts import SORTS, is_below, joined, lowers
from watchkinds.room.room import Room
from watchkinds.turning.kinds import kinds, shown_pair
from watchkinds.turning.papers import tells

# Calls of every function of the interface, in the names of the examples.
CALLS = """
is_letters("abc")|is_word("ab")|list(all_words("ab", 3))|power("ab", 3)|counts("ab", "aab")|pieces("abab", 2)
is_piece("aa", "aba")|last_letters("abc", 2)|first_letters("abc", 2)|of_words("ab", ("ab", "b"))|chained(EVEN, ODD)
repeated(of_words("ab", ("ab",)))|mirrored(CLOSES)|behind(CLOSES, "a")|renamed(CLOSES, {"a": "z", "b": "a"})
common_word(EVEN, SOME)|first_difference(EVEN, SOME)|are_same(EVEN, ODD)|state_words(OPENS)|knots(OPENS)
is_order_free(EVEN)|places(EVEN, LATCH)|word_to(EVEN, LATCH, 1)|tells_apart(EVEN, ODD, SWITCH)
alike_pair(EVEN, ODD, LATCH)|is_alike_pair(EVEN, ODD, LATCH, ("aa", "a"))|is_seen(EVEN, LATCH, "a")
apart_paper(EVEN, ODD, SWITCH)|is_apart_paper(EVEN, ODD, SWITCH, apart_paper(EVEN, ODD, SWITCH))
guesses_of(LATCH, (EVEN, ODD), "a")|box_groups(LATCH, (EVEN, ODD))|is_sort("caps")|is_below("caps", "any")
uppers("caps")|lowers("clerks")|joined("caps", "sums")|least_of(("any", "caps"))|is_up_set(("any",))
is_of(LATCH, "caps")|sorts_of(LATCH)|number_of(LATCH, "caps")|bar(LATCH, "sums")|is_bar(LATCH, "sums", bar(LATCH, "sums"))
is_row_of("ab", BOTH)|resets_alone("ab", BOTH)|rearranges_alone("ab", BOTH)|stand_after("ab", BOTH, "aba")
stands("ab", BOTH)|row_box("ab", BOTH)|rows_beside("ab", BOTH, BOTH)|is_row_paper(LATCH, row_paper(LATCH))
image_sets(LATCH)|height(LATCH, (0, 1))|tiles(LATCH, (0, 1))|set_turns(SWITCH, (0, 1))|row_paper(SWITCH)
last_number(CLOSES, ~CLOSES)|first_number(OPENS, ~OPENS)|last_blur(EVEN, ODD)|first_blur(EVEN, ODD)
is_last_blur(EVEN, ODD, last_blur(EVEN, ODD))|is_first_blur(EVEN, ODD, first_blur(EVEN, ODD))
last_words(EVEN, ODD, last_blur(EVEN, ODD), 5)|first_words(EVEN, ODD, first_blur(EVEN, ODD), 5)
last_paper(CLOSES, ~CLOSES)|first_paper(OPENS, ~OPENS)|is_last_paper(CLOSES, ~CLOSES, last_paper(CLOSES, ~CLOSES))
is_first_paper(OPENS, ~OPENS, first_paper(OPENS, ~OPENS))|is_path(EVEN, ODD, PATH)|path_ends(EVEN, ODD, PATH)
is_pieces_blur(EVEN, ODD, pieces_blur(EVEN, ODD))|pieces_words(EVEN, ODD, pieces_blur(EVEN, ODD), 3)
ring_letters(EVEN, 0)|block_ends(EVEN, 0, "ab")|pieces_blur(EVEN, ODD)|pieces_clear(SOME, NONE)
is_pieces_clear(SOME, NONE, pieces_clear(SOME, NONE))|are_told_by_pieces(SOME, NONE)|least_pieces(SOME, NONE, 3)
pieces_pair(EVEN, ODD, 2)|met(EVEN, "ab")|simple_rings(EVEN, 0)|is_ring(EVEN, 0, "aa")|is_alike("ab", "caps", 2, "a", "b")
is_counts_blur(SOME, NONE, "sums", counts_blur(SOME, NONE, "sums"))|side_sum(SOME, ("a", ((1, "a", -1),)))
counts_words(SOME, NONE, "sums", counts_blur(SOME, NONE, "sums"), 3)|sight("ab", 1, 2, "aab")|sights(EVEN, 1, 2)
counts_blur(SOME, NONE, "sums")|clerk_for(SOME, NONE, "caps", 3)|is_clerk_for(SOME, NONE, "caps", (1, 1))
first_clerk(SOME, NONE, "clerks", 3)|is_row("aB")|opposite("aB")|short("abB")|are_alike("aA", "")|way(OPENS, 0, 1)
signed_steps(OPENS)|is_walk(EVEN, ((0, "a", 1),))|is_full_walk(ODD, ((0, "a", 1),))|row_of(EVEN, ((0, "A", 1),))
back_steps(EVEN, ((0, "A", 1),))|stand_in(EVEN, ((0, "A", 1),), 3)|is_turners_blur(SOME, NONE, turners_blur(SOME, NONE))
turners_words(SOME, NONE, turners_blur(SOME, NONE), 3)|null_pairs(CLOSES)|null_walk(CLOSES, 0, 1)
are_told_by_turners(EVEN, ODD)|turners_blur(SOME, NONE)|turners_clear(EVEN, ODD)
is_turners_clear(EVEN, ODD, turners_clear(EVEN, ODD))|is_in_shadow(CLOSES, "b")|list(shadow(CLOSES, 3))
turner_for(EVEN, ODD, 3)|map_of(EVEN, ODD, "ab")|is_map(EVEN, ODD, map_of(EVEN, ODD, "a"))|maps_of_words(EVEN, OPENS)
first_words_of_maps(EVEN, OPENS)|behind_map(EVEN, ODD, map_of(EVEN, ODD, "a"), map_of(EVEN, ODD, "b"))
map_rounds(EVEN, ODD, map_of(EVEN, ODD, "a"))|map_hits(EVEN, ODD, map_of(EVEN, ODD, "a"))|is_cloud(EVEN, ODD, CLOUD)
cloud_behind(EVEN, ODD, CLOUD, CLOUD)|often(EVEN, ODD, CLOUD)|often_number(EVEN, ODD, CLOUD)|is_bad_cloud(EVEN, ODD, CLOUD)
recipe_clouds(EVEN, ODD, RECIPE)|is_recipe(EVEN, ODD, RECIPE)|is_latches_blur(EVEN, ODD, ("recipe", RECIPE))
is_latches_clear(SOME, NONE, latches_clear(SOME, NONE))|greatest_clouds(EVEN, OPENS)|latches_blur(EVEN, ODD)
latches_clear(SOME, NONE)|are_told_by_latches(EVEN, ODD)|latches_words(EVEN, ODD, ("recipe", RECIPE), 4)
latch_word(EVEN, ODD, RECIPE, map_of(EVEN, ODD, "a"), 4)|tells(EVEN, ODD, "sums")|blur_of(EVEN, ODD, "last")
is_blur(EVEN, ODD, "last", blur_of(EVEN, ODD, "last"))|words_against(EVEN, ODD, "last", blur_of(EVEN, ODD, "last"), 3)
turned(EVEN, ODD, "latches", ("recipe", RECIPE), "caps")|kinds(EVEN, ODD)|least_kinds(EVEN, ODD)|kind_paper(EVEN, ODD)
is_kind_paper(EVEN, ODD, kind_paper(EVEN, ODD))|shown_pair("pieces")|apart_pairs((EVEN, ODD, SOME), "any")
kind_groups((EVEN, ODD, SOME), "any")|is_watcher_for((EVEN, ODD), "sums", SWITCH)|joined_watcher((LATCH, SWITCH))
family_kinds((EVEN, ODD))|write_machine(EVEN)|write_box(LATCH)|write_row("ab", BOTH)|write_blur(("recipe", RECIPE))
read_machine("machine a 1\\nstate 0\\nends -")|read_box("box a 1\\nplace 0")|read_row(write_row("ab", BOTH))
read_blur("word ab")|is_blur_text("word ab")
"""

BOTH = ((2, 0, ({(): 1}, {})), (2, 0, ({(1,): (1, 0)}, {})))
RECIPE = (("word", "a"), ("often", 0))
CLOUD = (((0, 1), (0, 1)), ((1, 0), (1, 0)))
PATH = (("letter", "a"), ("block", ("", "b", ""), ("", "b", "")))

# Good values for all parameters beside `value`.
GOOD = {"one": EVEN, "other": ODD, "box": SWITCH, "sort": "sums", "letters": "ab", "machine": EVEN, "state": 0,
        "machines": (EVEN, ODD, SOME)}


def seen(value):
    """A value as text, with all that machines, boxes and the like hold."""
    if is_machine(value):
        return f"Machine({value.letters!r}, {value.table!r}, {value.ends!r})"
    if is_box(value):
        return f"Box({value.letters!r}, {value.table!r})"
    if isinstance(value, dict):
        return "{" + ", ".join(f"{seen(key)}: {seen(held)}" for key, held in value.items()) + "}"
    if isinstance(value, (tuple, list)):
        return type(value).__name__ + "(" + ", ".join(map(seen, value)) + ")"
    return repr(value)


def spoil(value):
    """Change all lists and dicts in a value."""
    if isinstance(value, dict):
        for part in list(value.values()):
            spoil(part)
        value.clear()
        value["spoiled"] = True
    elif isinstance(value, (tuple, list)):
        for part in value:
            spoil(part)
        if isinstance(value, list):
            value.append("spoiled")


class Calls(unittest.TestCase):
    def names(self):
        names = all_names()
        names.update(EVEN=EVEN, ODD=ODD, CLOSES=CLOSES, OPENS=OPENS, SOME=SOME, NONE=NONE, LATCH=LATCH, SWITCH=SWITCH,
                     BOTH=copy.deepcopy(BOTH), RECIPE=RECIPE, CLOUD=CLOUD, PATH=PATH)
        return names

    def calls(self):
        return [call for call in re.split(r"[|\n]", CALLS) if call]

    def test_every_function_is_called(self):
        called = {name for call in self.calls() for name in re.findall(r"(\w+)\(", call)}
        for told in FUNCTIONS.values():
            self.assertLessEqual(set(re.findall(r"(\w+)\(", told)), called)

    def test_equal_calls_return_equal_results(self):
        names = self.names()
        for call in self.calls():
            first, second = eval(call, names), eval(call, names)
            self.assertEqual(seen(first), seen(second), call)
            check_small(self, first)
        for call in reversed(self.calls()):
            # In another order, too, and beside other calls.
            self.assertEqual(seen(eval(call, names)), seen(eval(call, self.names())), call)

    def test_arguments_stay_as_they_are(self):
        names = self.names()
        held = {name: seen(value) for name, value in names.items() if name.isupper()}
        for call in self.calls():
            eval(call, names)
            self.assertEqual({name: seen(names[name]) for name in held}, held, call)

    def test_what_is_returned_can_be_changed(self):
        names = self.names()
        for call in self.calls():
            result = eval(call, names)
            before = seen(result)
            spoil(result)
            self.assertEqual(seen(eval(call, self.names())), before, call)
        row = copy.deepcopy(BOTH)
        spoil(names["rows_beside"]("ab", row, ()))
        spoil(names["rows_beside"]("ab", (), row))
        self.assertEqual(row, BOTH)

    def test_what_was_passed_can_be_changed(self):
        names = self.names()
        letters = {"a": "z", "b": "a"}
        machine = names["renamed"](EVEN, letters)
        letters.clear()
        self.assertEqual((machine.letters, machine.table), ("az", ((0, 1), (1, 0))))
        row = copy.deepcopy(BOTH)
        box, beside = names["row_box"]("ab", row), names["rows_beside"]("ab", row, row)
        text = names["write_row"]("ab", row)
        expected = seen((box, beside, text))
        spoil(row)
        self.assertEqual(seen((box, beside, text)), expected)
        self.assertEqual(seen(names["row_box"]("ab", copy.deepcopy(BOTH))), seen(box))

    def test_objects_that_cannot_be_iterated(self):
        for thing in (EVEN, LATCH, Room("ab").attempt()):
            with self.assertRaises(TypeError):
                iter(thing)
        self.assertEqual(list(Room("ab")), [])

    def test_equality_takes_every_value(self):
        for thing in (EVEN, LATCH, Room("ab")):
            for value in VALUES:
                same = thing is value or (type(value) is type(thing) and seen(value) == seen(thing)) or (
                    isinstance(thing, Room) and isinstance(value, Room) and value.letters == "ab")
                self.assertEqual((thing == value, thing != value), (same, not same))
                if not is_box(thing):
                    self.assertIn(value in thing, (True, False))

    def test_keys_of_returned_dicts_ascend(self):
        names = self.names()
        for call in self.calls():
            result = eval(call, names)
            if isinstance(result, dict):
                order = SORTS if call.startswith("kind_paper") else sorted(result)
                self.assertEqual(list(result), list(order), call)


class AnyValue(unittest.TestCase):
    def test_every_value_is_accepted(self):
        """A function whose name begins with `is_` or `are_` answers True or False to every value [0.5]."""
        more = [(value, value) for value in VALUES[::3]] + [deep(value, 9) for value in VALUES[::5]]
        functions = 0
        for module, told in FUNCTIONS.items():
            for name in re.findall(r"(\w+)\(", told):
                function = getattr(importlib.import_module(module), name)
                parameters = list(inspect.signature(function).parameters)
                if not name.startswith(("is_", "are_")) or "value" not in parameters:
                    continue
                functions += 1
                for value in VALUES + more:
                    result = function(*[value if part == "value" else GOOD[part] for part in parameters])
                    self.assertIn(type(result), (bool,), (name, value))
        self.assertGreater(functions, 30)

    def test_answers_are_true_or_false(self):
        for module, told in FUNCTIONS.items():
            for name in re.findall(r"\b((?:is|are)_\w+)\(", told):
                for call in re.findall(rf"(?<![\w]){name}\(.*?\)(?=\||\n)", CALLS):
                    self.assertIn(eval(call, Calls("names").names()), (True, False))


class Sorts(unittest.TestCase):
    def test_boxes_side_by_side(self):
        """Two boxes side by side are a box of the join of their sorts, and tell what one of them tells [0.12]."""
        boxes = some_boxes("ab", 40, 1301, places=(1, 2, 3))
        machines = some_machines("ab", 12, 1302, states=(1, 2))
        for one, other in itertools.pairwise(boxes):
            both = one & other
            for sort, also in itertools.product(sorts_of(one), sorts_of(other)):
                self.assertIs(is_of(both, joined(sort, also)), True)
            for left, right in itertools.pairwise(machines):
                if tells_apart(left, right, one) or tells_apart(left, right, other):
                    self.assertIs(tells_apart(left, right, both), True)

    def test_sorts_below_tell_less(self):
        some = random.Random(133)
        for _ in range(40):
            one, other = (random_machine(some, "ab", 2) for _ in range(2))
            told = kinds(one, other)
            for sort, upper in itertools.product(SORTS, repeat=2):
                if is_below(sort, upper) and sort in told:
                    self.assertIn(upper, told)

    def test_places_of_words(self):
        for box in some_boxes("ab", 20, 1303):
            for word in words_up_to("ab", 4):
                self.assertEqual(box(word), led_to(box, word))
        self.assertTrue(issubclass(TooMany, OverflowError) and not issubclass(TooMany, WatchError))


class Untrue(unittest.TestCase):
    """Each sentence of [0.17] is shown to be untrue by an example."""

    def test_told_apart_by_a_latch_or_a_turner(self):
        for sort in ("clerks", "any"):
            one, other = shown_pair(sort)
            self.assertIsNone(all_names()["common_word"](one, other))
            self.assertEqual((tells(one, other, "latches"), tells(one, other, "turners")), (False, False))

    def test_told_apart_by_a_cap_or_a_sum(self):
        one, other = shown_pair("clerks")
        self.assertEqual([tells(one, other, sort) for sort in ("clerks", "caps", "sums")], [True, False, False])
        self.assertEqual(first_clerk(one, other, "clerks", 12), (1, 2))

    def test_boxes_side_by_side_tell_what_one_of_them_tells(self):
        one, other = shown_pair("clerks")
        cap, rest = Box.caps("a", 1), Box.rests("a", 2)
        self.assertEqual([tells_apart(one, other, box) for box in (cap, rest, cap & rest)], [False, False, True])

    def test_each_word_is_told_from_each_word(self):
        for sort in ("caps", "last", "first", "pieces", "latches"):
            self.assertIs(tells(EVEN, ODD, sort), False)
        one, other = Machine("a", ((1,), (0,)), (0,)), Machine("a", ((1,), (0,)), (1,))
        self.assertIs(tells(one, other, "caps"), False)
        for left, right in itertools.product(range(0, 9, 2), range(1, 9, 2)):
            self.assertNotEqual(Box.caps("a", 9)("a" * left), Box.caps("a", 9)("a" * right))

    def test_a_box_of_two_sorts_is_of_a_sort_below_both(self):
        box = Box("ab", ((1, 1), (1, 1)))
        self.assertTrue(is_of(box, "last") and is_of(box, "first"))
        self.assertEqual(set(lowers("last")) & set(lowers("first")), set())


if __name__ == "__main__":
    unittest.main()
