"""Tests of boxes: held against the meaning of the sorts in [0.10], by the actions of words, and plain readings of bars."""

import itertools
import unittest

from watchkinds.boxes.boxes import Box
from watchkinds.errors import InvalidBox, InvalidOperation, TooMany
from watchkinds.ladder import checks
from watchkinds.ladder.checks import MAX_ACTIONS, bar, is_bar, is_of, number_of, sorts_of
from watchkinds.ladder.sorts import SORTS, joined, uppers

from plain import (LATCH, SWITCH, VALUES, Argument, all_boxes, check_arguments, check_error, is_box, is_plain_number,
                   is_plain_word, led_to, some_boxes, words_up_to)

NUMBERED = tuple(sort for sort in SORTS if sort not in ("pieces", "any"))
# Boxes with just 2000, and with just 2001, actions of words.
FULL = Box("abc", ((3, 1, 2), (2, 0, 1), (2, 4, 5), (3, 4, 5), (4, 5, 0), (4, 3, 5)))
OVER = Box("abc", ((4, 3, 3), (0, 0, 2), (5, 4, 2), (3, 0, 0), (3, 4, 1), (1, 5, 2)))
# All rearrangements of six places, by two letters, and again with the letters exchanged.
TURNS = Box("ab", ((1, 1), (2, 0), (3, 2), (4, 3), (5, 4), (0, 5)))
TURNED = Box("ab", ((1, 1), (0, 2), (2, 3), (3, 4), (4, 5), (5, 0)))
# Boxes of sorts that chance would hardly make, some with places that no word reaches.
SHAPED = [
    LATCH, SWITCH, Box.window("ab", 1), Box.heads("ab", 1), Box.pieces("ab", 1), Box.caps("a", 3), Box.rests("a", 4),
    Box.clerk("a", 2, 2), Box.caps("ab", 1), Box.rests("ab", 2), Box.clerk("abc", 0, 1), Box.heads("abc", 1),
    Box.window("abc", 1), Box("a", ((0,), (2,), (1,))), Box("a", ((0,), (0,), (1,), (2,))), Box("a", ((1,), (1,), (1,))),
    Box("ab", ((0, 0), (1, 2), (2, 1))), Box("ab", ((0, 0), (2, 1), (2, 2), (3, 3))),
    Box("ab", ((1, 1), (2, 2), (3, 3), (3, 3))), Box("ab", ((1, 2), (1, 3), (3, 2), (3, 3))),
    Box("ab", ((1, 2), (3, 3), (3, 3), (3, 3))), Box("ab", ((1, 0), (2, 1), (2, 3), (3, 3))),
    Box("ab", ((1, 1), (2, 2), (0, 0), (3, 3))), Box("ab", ((1, 0), (2, 1), (3, 2), (3, 3))),
    Box("ab", ((1, 0), (2, 1), (3, 2), (0, 3))), Box("ab", ((1, 2), (2, 1), (0, 3), (3, 0))),
    Box("ab", ((1, 2), (0, 3), (3, 0), (2, 1))), Box("ab", ((1, 2), (0, 0), (0, 0), (3, 3))),
    Box("abc", ((1, 0, 0), (1, 2, 1), (2, 2, 2))), Box("abc", ((1, 2, 0), (2, 0, 1), (0, 1, 2))),
    Box("abc", ((0, 1, 0), (1, 1, 2), (2, 3, 3), (3, 3, 3))), Box("abc", ((1, 1, 1), (2, 2, 2), (2, 2, 2), (2, 0, 1))),
    Box("ab", ((2, 2), (2, 2), (2, 2), (0, 1))), Box("ab", ((1, 1), (2, 3), (2, 2), (3, 3))),
    Box("ab", ((0, 1), (0, 2), (3, 2), (3, 2))), Box("ab", ((0, 1), (1, 2), (2, 2))), Box("a", ((0,), (1,), (2,), (3,))),
]


def actions_of(box):
    """All actions of words."""
    letters = [tuple(row[at] for row in box.table) for at in range(len(box.letters))]
    found = {tuple(range(len(box.table)))}
    layer = list(found)
    while layer:
        layer = {behind(action, letter) for action in layer for letter in letters} - found
        found |= layer
    return found


def behind(action, other):
    return tuple(other[place] for place in action)


def taken(action, times):
    result = tuple(range(len(action)))
    for _ in range(times):
        result = behind(result, action)
    return result


def action_of(box, word):
    return tuple(led_to(box, word, place) for place in range(len(box.table)))


def leads_alike(box, start, step):
    """Whether all words of which `step` makes the same, letter by letter from `start` on, have the same action."""
    key = (start, tuple(range(len(box.table))))
    letters = {letter: action_of(box, letter) for letter in box.letters}
    met, queue, held = {key}, [key], {start: key[1]}
    while queue:
        told, action = queue.pop()
        for letter, moved in letters.items():
            after = (step(told, letter), behind(action, moved))
            if after not in met:
                if held.setdefault(after[0], after[1]) != after[1]:
                    return False
                met.add(after)
                queue.append(after)
    return True


def counter(letters, cap, modulus):
    def step(held, letter):
        at = letters.index(letter)
        more = held[at] + 1
        more = more if more < cap else cap + (more - cap) % modulus
        return held[:at] + (more,) + held[at + 1:]
    return step


def piece_step(most):
    return lambda held, letter: held | {piece + letter for piece in held if len(piece) < most}


def is_by(box, sort, number):
    """Whether a box is of a sort with a number, by what [0.10] says."""
    letters, actions = box.letters, actions_of(box)
    none = (0,) * len(letters)
    if sort in ("last", "first"):
        parts = [action_of(box, "".join(word)) for word in itertools.product(letters, repeat=number)]
        if sort == "last":
            return all(len({behind(action, part) for action in actions}) == 1 for part in parts)
        return all(len({behind(part, action) for action in actions}) == 1 for part in parts)
    if sort == "caps":
        return leads_alike(box, none, counter(letters, number, 1))
    if sort == "sums":
        return leads_alike(box, none, counter(letters, 0, number))
    if sort == "clerks":
        return leads_alike(box, none, counter(letters, number, number))
    if sort == "pieces":
        return leads_alike(box, frozenset([""]), piece_step(number))
    if sort == "latches":
        return all(taken(action, number) == taken(action, number + 1) for action in actions)
    if sort == "turners":
        return all(taken(action, number) == tuple(range(len(action))) for action in actions)
    return True


def least_number(box, sort):
    """The least number by which a box with at most four places is of a sort, or None."""
    start = 1 if sort in ("sums", "clerks", "turners") else 0
    # Pairs of four places meet within six letters; rings of at most four places close together within twelve.
    most = 6 if sort in ("last", "first") else 12
    return next((number for number in range(start, most + 1) if is_by(box, sort, number)), None)


def is_plain_bar(box, sort, value):
    """Whether the value is a bar, by what [6.2] says."""
    def place(part):
        return is_plain_number(part, 0, len(box.table) - 1)

    def way(part):
        return is_plain_word(part) and set(part) <= set(box.letters)

    def letter(part):
        return way(part) and len(part) == 1

    def fits(form, *kinds):
        return (type(value) is tuple and len(value) == len(kinds) + 1 and type(value[0]) is str and value[0] == form
                and all(kind(part) for kind, part in zip(kinds, value[1:])))

    def to(word, start):
        return led_to(box, word, start)

    swap = fits("swap", place, letter, letter) and (
        to(value[2] + value[3], value[1]) != to(value[3] + value[2], value[1]))
    merge = fits("merge", place, place, letter) and value[1] < value[2] and (
        to(value[3], value[1]) == to(value[3], value[2]))
    turn = fits("turn", place, way) and to(value[2], value[1]) != value[1] and any(
        to(value[2] * times, value[1]) == value[1] for times in range(1, len(box.table) + 1))
    if sort == "last":
        return fits("rings", place, way, way, way) and value[4] != "" and to(value[2], value[1]) != to(
            value[3], value[1]) and all(to(value[4], to(word, value[1])) == to(word, value[1]) for word in value[2:4])
    if sort == "first":
        return fits("left", place, way, letter) and value[2] != "" and to(value[2], value[1]) == value[1] and (
            to(value[3], value[1]) != value[1])
    if sort == "pieces":
        if fits("ring", place, way, way):
            return to(value[2], value[1]) != value[1] and to(value[2] + value[3], value[1]) == value[1]
        if not fits("apart", place, letter, letter) or value[2] == value[3]:
            return False
        pairs = {(to(value[2], value[1]), to(value[3], value[1]))}
        for _ in range(len(box.table) ** 2):
            pairs |= {(to(sign, one), to(sign, other)) for one, other in pairs for sign in value[2:]}
        return not any(one == other for one, other in pairs)
    return {"clerks": swap, "caps": swap or turn and len(value[2]) == 1, "sums": swap or merge, "latches": turn,
            "turners": merge, "any": False}[sort]


def small_boxes():
    yield from all_boxes("a", 1) + all_boxes("a", 2) + all_boxes("a", 3) + all_boxes("ab", 1) + all_boxes("ab", 2)
    yield from all_boxes("ab", 3)[::5] + all_boxes("a", 4)[::3]
    yield from some_boxes("abc", 40, 91, (2, 3)) + some_boxes("ab", 60, 92, (4,)) + some_boxes("abc", 20, 93, (4,))
    yield from SHAPED


class SmallBoxes(unittest.TestCase):
    def test_numbers_by_the_meaning_of_the_sorts(self):
        for box in small_boxes():
            for sort in NUMBERED:
                number = least_number(box, sort)
                self.assertEqual(number_of(box, sort), number, (box.letters, box.table, sort))
                self.assertIs(is_of(box, sort), number is not None, (box.letters, box.table, sort))

    def test_pieces_by_the_meaning_of_the_sort(self):
        for box in small_boxes():
            # Without rings at most three letters lead four places on; with three letters fewer places are taken.
            if len(box.letters) < 3 or len(box.table) < 4:
                number = len(box.table) - 1
                self.assertIs(is_of(box, "pieces"), is_by(box, "pieces", number), (box.letters, box.table))

    def test_of_the_sort_or_a_bar(self):
        """[6.2], and [6.3] for one box."""
        for box in list(small_boxes()) + some_boxes("ab", 60, 94, (5,)):
            held = sorts_of(box)
            self.assertEqual(held, tuple(sort for sort in SORTS if is_of(box, sort)))
            for sort in SORTS:
                found = bar(box, sort)
                self.assertIs(found is None, sort in held)
                self.assertIs(is_bar(box, sort, found), found is not None)
                self.assertIs(is_plain_bar(box, sort, found), found is not None)
                if found is not None:
                    self.assertLessEqual(max(len(part) for part in found if type(part) is str), 400)
                if sort in held:
                    self.assertLessEqual(set(uppers(sort)), set(held))
            self.assertIs("any" in held, True)
            self.assertIs("sums" in held, "clerks" in held and "turners" in held)
            self.assertIs("caps" in held, "clerks" in held and "latches" in held)

    def test_each_sort_is_met(self):
        met = [sorts_of(box) for box in small_boxes()]
        for sort in SORTS:
            self.assertTrue(any(sort in held for held in met) and (sort == "any" or any(
                sort not in held for held in met)))
        self.assertIs(any("pieces" in held and "caps" not in held for held in met), True)
        self.assertIs(any(bar(box, "pieces") is not None and bar(box, "pieces")[0] == "apart"
                          for box in small_boxes()), True)

    def test_pairs_joined(self):
        """[6.3], the last sentence."""
        drawn = [box for box in SHAPED if box.letters == "ab"] + some_boxes("ab", 10, 95, (2, 3))
        for one, other in itertools.product(drawn, repeat=2):
            try:
                both = sorts_of(one & other)
            except TooMany:
                continue
            for left in sorts_of(one):
                for right in sorts_of(other):
                    self.assertIn(joined(left, right), both)


class Bars(unittest.TestCase):
    def candidates(self, box):
        """Tuples of all forms with all places, letters and short words."""
        places, words = range(len(box.table)), words_up_to(box.letters, 2)
        yield from itertools.product(("rings",), places, words, words, words)
        yield from itertools.product(("left", "ring", "swap", "apart"), places, words, words)
        yield from itertools.product(("turn",), places, words)
        yield from itertools.product(("merge",), places, places, box.letters + "z")

    def test_all_small_bars(self):
        for box in all_boxes("ab", 2) + all_boxes("ab", 3)[::61] + all_boxes("a", 3) + SHAPED[:1] + SHAPED[16:24]:
            for value in self.candidates(box):
                for sort in SORTS:
                    self.assertIs(is_bar(box, sort, value), is_plain_bar(box, sort, value),
                                  (box.letters, box.table, sort, value))

    def test_bars_changed(self):
        for box in some_boxes("abc", 30, 96, (3, 4)) + some_boxes("ab", 40, 97, (3, 4, 5)):
            for sort in SORTS:
                found = bar(box, sort)
                if found is None:
                    continue
                for at in range(len(found)):
                    for other in (0, 1, 2, 3, 5, -1, True, None, "", "a", "b", "ab", "c", "z", "A", "turn", ("a",)):
                        changed = found[:at] + (other,) + found[at + 1:]
                        for judged in SORTS:
                            self.assertIs(is_bar(box, judged, changed), is_plain_bar(box, judged, changed),
                                          (box.letters, box.table, judged, changed))
                for changed in (found[:-1], found + ("a",), list(found), found[1:], (found,), ()):
                    self.assertIs(is_bar(box, sort, changed), is_plain_bar(box, sort, changed))

    def test_any_value_is_judged(self):
        for box in (LATCH, SWITCH, Box.heads("ab", 1), Box("a", ((0,),))):
            for sort in SORTS:
                for value in VALUES:
                    self.assertIs(is_bar(box, sort, value), is_plain_bar(box, sort, value), repr(value))
                    for form in ("rings", "left", "swap", "turn", "merge", "ring", "apart"):
                        for many in range(1, 5):
                            made = (form,) + (value,) * many
                            self.assertIs(is_bar(box, sort, made), is_plain_bar(box, sort, made), repr(made))
                    for made in (("turn", 0, value), ("turn", value, "a"), ("swap", 0, value, "b"),
                                 ("merge", 0, value, "a"), ("left", 0, value, "a"), ("left", 0, "b", value),
                                 ("rings", 0, "", "a", value), ("ring", 0, "a", value), ("apart", 0, "a", value),
                                 (value, 0, "a"), (value, 0, 1, "a")):
                        self.assertIs(is_bar(box, sort, made), is_plain_bar(box, sort, made), repr(made))

    def test_long_words_in_bars(self):
        ring = Box.rests("a", 7)
        self.assertIs(is_bar(ring, "latches", ("turn", 0, "a" * 399)), False)
        self.assertIs(is_bar(ring, "latches", ("turn", 0, "a" * 400)), True)
        self.assertIs(is_bar(ring, "last", ("rings", 0, "a" * 400, "a" * 399, "a" * 392)), True)
        self.assertIs(is_bar(ring, "last", ("rings", 0, "a" * 400, "a" * 393, "a" * 392)), False)
        self.assertIs(is_bar(ring, "caps", ("turn", 0, "aa")), False)


class GreatBoxes(unittest.TestCase):
    def boxes(self):
        ring = Box.rests("a", 4) & Box.rests("a", 9) & Box.rests("a", 11)
        return [
            (Box.clerk("ab", 8, 12), {"clerks": 12}), (Box.rests("ab", 4) & Box.rests("ab", 5), {"sums": 20}),
            (ring & Box.caps("a", 4), {"clerks": 396}), (ring, {"sums": 396}), (Box.caps("abc", 6), {"caps": 6}),
            (Box.window("abc", 4), {"last": 4}), (Box.heads("abc", 4), {"first": 4}), (Box.rests("abc", 7), {"sums": 7}),
            (Box.pieces("ab", 3), {"latches": 3}), (Box.pieces("abc", 2), {"latches": 2}),
            (Box.heads("ab", 3) & Box.window("ab", 3), {"latches": 3}),
            (Box.clerk("ab", 9, 3), {"clerks": 9}), (Box.clerk("ab", 3, 2), {"clerks": 4}),
        ]

    def test_numbers_and_bars(self):
        for box, numbers in self.boxes():
            held = sorts_of(box)
            for sort, number in numbers.items():
                self.assertEqual(number_of(box, sort), number)
                self.assertIn(sort, held)
            for sort in SORTS:
                found = bar(box, sort)
                self.assertIs(found is None, sort in held)
                self.assertIs(is_bar(box, sort, found), found is not None)
                if found is not None:
                    self.assertLessEqual(max(len(part) for part in found if type(part) is str), 400)
            self.assertIs("pieces" in held, box in (Box.pieces("ab", 3), Box.pieces("abc", 2), Box.caps("abc", 6)))

    def test_just_as_many_actions_as_may_be(self):
        self.assertEqual((MAX_ACTIONS, len(actions_of(FULL)), len(actions_of(OVER))), (2000, 2000, 2001))
        self.assertEqual(sorts_of(FULL), ("any",))
        for sort in SORTS:
            self.assertIs(is_bar(FULL, sort, bar(FULL, sort)), sort != "any")
        for sort in NUMBERED:
            self.assertIsNone(number_of(FULL, sort))

    def test_more_actions_than_may_be(self):
        for box in (OVER, TURNS & TURNED):
            for call, values in ((is_of, (box, "latches")), (bar, (box, "latches")), (number_of, (box, "latches")),
                                 (number_of, (box, "turners")), (sorts_of, (box,))):
                check_error(self, call, values, TooMany, "limit", 2000)
            for sort in SORTS:
                if sort != "latches":
                    self.assertIs(is_of(box, sort), bar(box, sort) is None)
                    self.assertIs(is_bar(box, sort, bar(box, sort)), bar(box, sort) is not None)
                if sort in NUMBERED and sort not in ("latches", "turners"):
                    self.assertIsNone(number_of(box, sort))
                self.assertIs(is_bar(box, sort, None), False)
            for sort in ("pieces", "any"):
                check_error(self, number_of, (box, sort), InvalidOperation)
        self.assertIs(is_of(TURNS & TURNED, "turners"), True)
        self.assertIs(is_of(OVER, "turners"), False)
        self.assertIs(is_bar(OVER, "latches", ("turn", 0, "a")), is_plain_bar(OVER, "latches", ("turn", 0, "a")))

    def test_all_rearrangements(self):
        self.assertEqual(len(actions_of(TURNS)), 720)
        self.assertEqual((number_of(TURNS, "turners"), sorts_of(TURNS)), (60, ("turners", "any")))


class WrongChecks(unittest.TestCase):
    def test_wrong_arguments(self):
        box = Argument(LATCH, is_box, InvalidBox)
        sort = Argument("caps", lambda value: type(value) is str and value in SORTS, InvalidOperation)
        counted = Argument("caps", lambda value: type(value) is str and value in NUMBERED, InvalidOperation)
        check_arguments(self, is_of, [box, sort])
        check_arguments(self, sorts_of, [box])
        check_arguments(self, number_of, [box, counted])
        check_arguments(self, bar, [box, sort])
        check_arguments(self, lambda one, two: is_bar(one, two, None), [box, sort])
        for wrong in ("pieces", "any", "bars"):
            check_error(self, number_of, (LATCH, wrong), InvalidOperation)

    def test_defined_in_the_module(self):
        for name in ("is_of", "sorts_of", "number_of", "bar", "is_bar"):
            self.assertEqual(getattr(checks, name).__module__, "watchkinds.ladder.checks")


if __name__ == "__main__":
    unittest.main()
