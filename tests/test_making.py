"""Image sets, heights, tiles and turns of boxes, and row papers, held against a plain reading of [8.1] and [8.2]."""

import itertools
import random
import unittest

from plain import (LATCH, SWITCH, VALUES, Argument, all_boxes, check_arguments, check_error, is_box, led_to,
                   random_box, some_boxes)
from watchkinds.boxes.boxes import Box
from watchkinds.errors import InvalidBox, InvalidOperation, TooMany
from watchkinds.ladder.checks import is_of
from watchkinds.rows import making
from watchkinds.rows.levels import is_row_of, is_row_paper, rearranges_alone, resets_alone, stands
from watchkinds.rows.making import MAX_ROWED, height, image_sets, row_paper, set_turns, tiles


class Plain:
    """All that [8.1] tells of a box, by the actions of all words, one by one."""

    def __init__(self, box):
        self.box = box
        places = range(len(box.table))
        self.actions = [tuple(places)]
        held = set(self.actions)
        for action in self.actions:
            for column in range(len(box.letters)):
                after = tuple(box.table[place][column] for place in action)
                if after not in held:
                    held.add(after)
                    self.actions.append(after)
        self.sets = {frozenset(action) for action in self.actions} | {frozenset({place}) for place in places}
        self.images = {one: {frozenset(action[place] for place in one) for action in self.actions}
                       for one in self.sets}
        self.below = {(one, other) for one in self.sets for other in self.sets
                      if any(one <= image for image in self.images[other])}
        self.alike = {(one, other) for one, other in self.below if (other, one) in self.below}
        self.known = {}

    def height(self, one):
        if one not in self.known:
            under = [other for other in self.sets if (other, one) in self.below and (other, one) not in self.alike]
            self.known[one] = 0 if len(one) == 1 else 1 + max(map(self.height, under))
        return self.known[one]

    def tiles(self, one):
        parts = [other for other in self.sets if other < one]
        return {part for part in parts if not any(part < other for other in parts)} if len(one) > 1 else set()

    def turns(self, one):
        order = sorted(one)
        return {tuple(action[place] for place in order) for action in self.actions
                if {action[place] for place in order} == one}


def is_lean(box):
    return len(box.lean()) == len(box)


class Sets(unittest.TestCase):
    def boxes(self):
        some = random.Random(8)
        found = all_boxes("a", 1) + all_boxes("a", 2) + all_boxes("a", 3) + all_boxes("ab", 2)
        found += some.sample(all_boxes("a", 4), 40) + some.sample(all_boxes("ab", 3), 60)
        for letters, many in (("a", 40), ("ab", 60), ("abc", 40)):
            found += some_boxes(letters, many, 83, places=(3, 4, 5))
        return found

    def test_against_the_plain_reading(self):
        for box in self.boxes():
            plain = Plain(box)
            told = image_sets(box)
            self.assertEqual(told, tuple(sorted(tuple(sorted(one)) for one in plain.sets)))
            for places in told:
                one = frozenset(places)
                self.assertEqual(height(box, places), plain.height(one))
                self.assertEqual(tiles(box, places), tuple(sorted(tuple(sorted(part)) for part in plain.tiles(one))))
                self.assertEqual(set_turns(box, places), tuple(sorted(plain.turns(one))))

    def test_what_is_no_image_set(self):
        for box in (LATCH, SWITCH, Box("ab", ((1, 0), (1, 2), (2, 2))), Box("a", ((0,), (0,), (1,)))):
            told = image_sets(box)
            near = [places for size in range(4) for places in itertools.product(range(3), repeat=size)]
            for value in VALUES + near + [list(told[0]), (told[0],), (False,), (0, True), told]:
                for call in (height, tiles, set_turns):
                    if repr(value) in map(repr, told):
                        call(box, value)
                    else:
                        check_error(self, call, (box, value), InvalidOperation)


class Papers(unittest.TestCase):
    def check_paper(self, box):
        row, places = paper = row_paper(box)
        self.assertIs(is_row_paper(box, paper), True, box.table)
        self.assertIs(is_row_of(box.letters, row), True)
        self.assertEqual(len(places), len(stands(box.letters, row)))
        for at, stand in enumerate(stands(box.letters, row)):
            self.assertEqual(len(stand), len(row), at)
        for _, _, rules in row:
            for rule in rules:
                self.assertEqual(list(rule), sorted(rule))
        if is_lean(box):
            latch = all(len(set_turns(box, one)) == 1 for one in image_sets(box))
            self.assertIs(resets_alone(box.letters, row), latch, box.table)
            self.assertIs(rearranges_alone(box.letters, row), is_of(box, "turners"), box.table)

    def test_papers_of_small_boxes(self):
        for letters, places in (("a", 1), ("a", 2), ("a", 3), ("a", 4), ("ab", 1), ("ab", 2)):
            for box in all_boxes(letters, places):
                self.check_paper(box)
        for box in random.Random(9).sample(all_boxes("ab", 3), 250):
            self.check_paper(box)

    def test_papers_of_greater_boxes(self):
        for letters in ("a", "ab", "abc"):
            for box in some_boxes(letters, 120, 85, places=(3, 4, 5, 5)):
                self.check_paper(box)

    def test_papers_of_latches_and_of_turners(self):
        some = random.Random(10)
        found = {"latches": 0, "turners": 0}
        for _ in range(150):
            letters, places = some.choice(("a", "ab", "abc")), some.randint(2, 5)
            columns = [some.sample(range(places), places) for _ in letters]
            turner = Box(letters, tuple(zip(*columns)))
            upward = Box(letters, tuple(tuple(some.randint(place, places - 1) for _ in letters)
                                        for place in range(places)))
            window = random_box(some, letters, places).lean()
            for box in (turner, upward, window):
                self.check_paper(box)
                if is_lean(box):
                    for sort in found:
                        found[sort] += self.is_quickly(box, sort)
        self.assertGreater(min(found.values()), 30, found)

    def is_quickly(self, box, sort):
        try:
            return is_of(box, sort)
        except TooMany:
            return False

    def test_papers_of_boxes_that_the_package_makes(self):
        for box in (Box.window("ab", 1), Box.heads("ab", 1), Box.pieces("ab", 1), Box.caps("a", 4), Box.rests("ab", 2),
                    Box.rests("a", 5), Box.clerk("a", 2, 3), Box.caps("ab", 1), LATCH & SWITCH):
            self.check_paper(box)

    def test_all_rearrangements_of_five_places(self):
        box = Box("abc", ((1, 1, 0), (2, 0, 0), (3, 2, 2), (4, 3, 3), (0, 4, 4)))
        self.check_paper(box)
        self.assertEqual(len(set_turns(box, (0, 1, 2, 3, 4))), 120)
        self.assertEqual(len(image_sets(box)), 31)
        self.assertEqual(height(box, (0, 1, 2, 3, 4)), 4)

    def test_the_latches_have_one_turn_of_each_set(self):
        for box in all_boxes("ab", 3)[::7] + some_boxes("ab", 60, 87, places=(4,)):
            one_turn = all(len(set_turns(box, one)) == 1 for one in image_sets(box))
            self.assertIs(one_turn, is_of(box, "latches"))

    def test_words_lead_stands_as_places(self):
        for box in some_boxes("ab", 30, 89, places=(4, 5)):
            row, places = row_paper(box)
            order = stands("ab", row)
            for word in ("", "a", "ba", "abba", "babab"):
                stand = order[0]
                for letter in word:
                    stand = tuple(self.after(row, stand, "ab".index(letter)))
                self.assertEqual(places[order.index(stand)], led_to(box, word))

    def after(self, row, stand, column):
        for at, (_, _, rules) in enumerate(row):
            deed = rules[column].get(stand[:at], tuple(range(12)))
            yield deed[stand[at]] if type(deed) is tuple else deed


class WrongMaking(unittest.TestCase):
    def test_wrong_arguments(self):
        box = Argument(LATCH, is_box, InvalidBox)
        places = Argument((0, 1), lambda value: repr(value) in ("(0, 1)", "(0,)", "(1,)"), InvalidOperation)
        for call in (image_sets, row_paper):
            check_arguments(self, call, [box])
        for call in (height, tiles, set_turns):
            check_arguments(self, call, [box, places])

    def test_more_places_than_may_be(self):
        self.assertEqual(MAX_ROWED, 5)
        six = Box("a", tuple((place,) for place in range(6)))
        for box in (six, Box.window("ab", 2)):
            for call in (image_sets, row_paper):
                check_error(self, call, (box,), TooMany, "limit", 5)
            for call in (height, tiles, set_turns):
                for value in ((0,), None, "x", (7,)):
                    check_error(self, call, (box, value), TooMany, "limit", 5)

    def test_defined_in_the_module(self):
        for name in ("image_sets", "height", "tiles", "set_turns", "row_paper"):
            self.assertEqual(getattr(making, name).__module__, "watchkinds.rows.making")


if __name__ == "__main__":
    unittest.main()
