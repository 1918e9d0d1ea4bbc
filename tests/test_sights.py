"""Machines seen by boxes: held against words of up to some letters and against pairs of states and places."""

import itertools
import unittest

from watchkinds.base.machines import Machine
from watchkinds.boxes import sights
from watchkinds.boxes.boxes import Box
from watchkinds.boxes.sights import (alike_pair, apart_paper, box_groups, guesses_of, is_alike_pair, is_apart_paper,
                                     is_seen, places, tells_apart, word_to)
from watchkinds.errors import InvalidBox, InvalidMachine, InvalidNumber, InvalidOperation, InvalidWord

from plain import (CLOSES, EVEN, LATCH, NONE, ODD, OPENS, SOME, SWITCH, VALUES, Argument, check_arguments, check_error,
                   is_box, is_machine, is_plain_number, is_plain_word, led_to, number_from, some_boxes, some_machines,
                   words_up_to)

MACHINE = Argument(EVEN, is_machine, InvalidMachine)
BOX = Argument(LATCH, is_box, InvalidBox)
WORD = Argument("ab", is_plain_word, InvalidWord)
SHOWN = (EVEN, ODD, CLOSES, OPENS, SOME, NONE)
MADE = [Box.window("ab", 1), Box.window("ab", 2), Box.heads("ab", 1), Box.pieces("ab", 1), Box.caps("ab", 2),
        Box.rests("ab", 2), Box.rests("ab", 3), Box.clerk("ab", 1, 2), LATCH, SWITCH]


def sighted(machine, box):
    """The dict from the pairs of a state and a place to which one word leads to the first such words."""
    found = {(0, 0): ""}
    layer = [""]
    while layer:
        longer = []
        for word in layer:
            for letter in box.letters:
                pair = (led_to(machine, word + letter), led_to(box, word + letter))
                if pair not in found:
                    found[pair] = word + letter
                    longer.append(word + letter)
        layer = longer
    return found


def seen_by(machine, box):
    """The dict from the places to which words of a machine lead to the first such words."""
    found = {}
    for (state, place), word in sighted(machine, box).items():
        if state in machine.ends:
            found.setdefault(place, word)
    return found


def trials():
    for letters, seed in (("a", 81), ("ab", 82), ("abc", 83)):
        machines = some_machines(letters, 12, seed)
        for box in some_boxes(letters, 12, seed + 10):
            yield machines, box
    for box in MADE:
        yield list(SHOWN), box


class OneMachine(unittest.TestCase):
    def test_places_and_first_words(self):
        for machines, box in trials():
            for machine in machines:
                found = seen_by(machine, box)
                self.assertEqual(places(machine, box), tuple(sorted(found)))
                for place in range(len(box)):
                    self.assertEqual(word_to(machine, box, place), found.get(place))
                for word in words_up_to(box.letters, 3):
                    self.assertIs(is_seen(machine, box, word), led_to(box, word) in found)

    def test_held_against_words(self):
        for machine in SHOWN:
            for box in MADE:
                firsts = {}
                for word in words_up_to("ab", 7):
                    if led_to(machine, word) in machine.ends:
                        firsts.setdefault(led_to(box, word), word)
                self.assertEqual(places(machine, box), tuple(sorted(firsts)))
                self.assertEqual({place: word_to(machine, box, place) for place in firsts}, firsts)

    def test_no_words_and_all_words(self):
        none, full = Machine("ab", ((0, 0),)), Machine("ab", ((0, 0),), (0,))
        loose = Box("ab", ((0, 0), (0, 1)))
        for box in MADE:
            self.assertEqual(places(none, box), ())
            self.assertEqual(places(full, box), tuple(range(len(box))))
            self.assertIs(tells_apart(none, full, box), True)
            self.assertIs(tells_apart(none, none, box), True)
            self.assertIs(tells_apart(full, full, box), False)
            self.assertIs(is_seen(none, box, ""), False)
            self.assertEqual(box_groups(box, (none, full, none)), ((0,), (1,), (2,)))
        self.assertEqual(places(full, loose), (0,))
        self.assertIsNone(word_to(full, loose, 1))


class TwoMachines(unittest.TestCase):
    def test_just_one_is_there(self):
        """[5.2]: a paper, or an alike pair."""
        for machines, box in trials():
            for one, other in itertools.product(machines, repeat=2):
                left, right = seen_by(one, box), seen_by(other, box)
                apart = not set(left) & set(right)
                pair, paper = alike_pair(one, other, box), apart_paper(one, other, box)
                self.assertIs(tells_apart(one, other, box), apart)
                self.assertEqual((pair is None, paper is None), (apart, not apart))
                self.assertIs(is_alike_pair(one, other, box, pair), not apart)
                self.assertIs(is_apart_paper(one, other, box, paper), apart)
                if apart:
                    self.check_paper(one, other, box, paper)
                else:
                    self.assertIs(type(pair), tuple)
                    self.assertIn(led_to(one, pair[0]), one.ends)
                    self.assertIn(led_to(other, pair[1]), other.ends)
                    self.assertEqual(led_to(box, pair[0]), led_to(box, pair[1]))

    def check_paper(self, one, other, box, paper):
        ends = []
        for machine, part in zip((one, other), paper):
            self.assertEqual(list(part), sorted(set(part)))
            self.assertLessEqual(set(sighted(machine, box)), set(part))
            ends.append({place for state, place in part if state in machine.ends})
        self.assertEqual(ends[0] & ends[1], set())

    def test_pairs_near_alike_ones(self):
        for one, other in ((EVEN, ODD), (SOME, NONE), (CLOSES, OPENS)):
            for box in MADE:
                for left in words_up_to("ab", 3):
                    for right in words_up_to("ab", 3):
                        right_one = (led_to(one, left) in one.ends and led_to(other, right) in other.ends
                                     and led_to(box, left) == led_to(box, right))
                        self.assertIs(is_alike_pair(one, other, box, (left, right)), right_one)
                        self.assertIs(is_alike_pair(one, other, box, [left, right]), False)
                        self.assertIs(is_alike_pair(one, other, box, (left, right, right)), False)
        self.assertIs(is_alike_pair(EVEN, SOME, LATCH, ("aa", "aa")), True)
        self.assertIs(is_alike_pair(EVEN, SOME, LATCH, ("aac", "aa")), False)
        self.assertIs(is_alike_pair(EVEN, SOME, LATCH, ("aa", "a\n")), False)
        self.assertIs(is_alike_pair(EVEN, SOME, LATCH, ("a" * 400, "a" * 399)), True)

    def test_papers_near_right_ones(self):
        one, other = Machine("a", ((1,), (0,)), (1,)), Machine("a", ((1,), (0,)), (0,))
        box = Box("a", ((1,), (0,), (2,)))
        right = ((0, 0), (1, 1))
        self.assertIs(is_apart_paper(one, other, box, (right, right)), True)
        self.assertIs(is_apart_paper(one, other, box, (right + ((1, 2),), right)), False)
        self.assertIs(is_apart_paper(one, other, box, (((0, 0), (0, 2), (1, 1), (1, 2)), right)), True)
        self.assertIs(is_apart_paper(one, other, box, (((0, 0), (0, 2), (1, 1), (1, 2)),) * 2), False)
        wrong = [((0, 0),), ((1, 1),), ((1, 1), (0, 0)), ((0, 0), (0, 0), (1, 1)), ((0, 0), (1, 1), (2, 0)),
                 ((0, 0), (1, 3)), ((0, 0), (True, 1)), ((False, 0), (1, 1)), ((0, 0), (1, 1, 0)), ((0, 0), [1, 1]),
                 [(0, 0), (1, 1)], (), None, ((-1, 0), (0, 0), (1, 1)), ((0, 0), (0, 1), (1, 0), (1, 1)), ((0, 0), 1),
                 ((0, 0), ("1", 1)), {(0, 0): 0, (1, 1): 0}]
        for part in wrong:
            self.assertIs(is_apart_paper(one, other, box, (part, right)), False, repr(part))
            self.assertIs(is_apart_paper(one, other, box, (right, part)), False, repr(part))
        for value in ((right,), (right, right, right), [right, right], right, None):
            self.assertIs(is_apart_paper(one, other, box, value), False)

    def test_all_small_papers(self):
        """All pairs of sets of pairs, held against [5.1]."""
        one, other = Machine("a", ((1,), (0,)), (1,)), Machine("a", ((1,), (1,)), (0,))
        box = Box("a", ((1,), (1,)))
        pairs = list(itertools.product(range(2), repeat=2))
        parts = [part for many in range(5) for part in itertools.combinations(pairs, many)]
        for left, right in itertools.product(parts, repeat=2):
            good = True
            for machine, part in ((one, left), (other, right)):
                good = good and (0, 0) in part and all(
                    (machine.table[state][0], box.table[place][0]) in part for state, place in part)
            good = good and not any(place == too and state in one.ends and at in other.ends
                                    for state, place in left for at, too in right)
            self.assertIs(is_apart_paper(one, other, box, (left, right)), good)

    def test_side_by_side(self):
        """[5.2], the last sentence."""
        for one, other in itertools.combinations(SHOWN, 2):
            for left, right in itertools.combinations(MADE, 2):
                if tells_apart(one, other, left) or tells_apart(one, other, right):
                    self.assertIs(tells_apart(one, other, left & right), True)
        odd, some = Machine("a", ((1,), (2,), (1,)), (0, 1)), Machine("a", ((1,), (2,), (1,)), (2,))
        cap, turn = Box.caps("a", 1), Box.rests("a", 2)
        self.assertEqual([tells_apart(odd, some, box) for box in (cap, turn, cap & turn)], [False, False, True])

    def test_great_boxes(self):
        box = Box.clerk("ab", 8, 12)
        self.assertEqual(places(EVEN, box), tuple(place for place in range(400)
                                                  if box.first_word(place).count("a") % 2 == 0))
        self.assertIs(tells_apart(EVEN, ODD, box), True)
        self.assertIs(is_apart_paper(EVEN, ODD, box, apart_paper(EVEN, ODD, box)), True)
        self.assertIs(is_alike_pair(CLOSES, ~CLOSES, box, alike_pair(CLOSES, ~CLOSES, box)), True)
        self.assertEqual(guesses_of(box, SHOWN, "ab" * 200), (0, 2, 3, 4))


class ManyMachines(unittest.TestCase):
    def test_guesses_and_groups(self):
        for machines, box in trials():
            machines = tuple(machines[:8])
            seen = [set(seen_by(machine, box)) for machine in machines]
            for word in words_up_to(box.letters, 3):
                self.assertEqual(guesses_of(box, machines, word), tuple(
                    at for at in range(len(machines)) if led_to(box, word) in seen[at]))
            for many in range(1, len(machines) + 1):
                self.assertEqual(box_groups(box, machines[:many]), self.plain_groups(seen[:many]))

    def plain_groups(self, seen):
        groups = [{at} for at in range(len(seen))]
        for one, other in itertools.combinations(range(len(seen)), 2):
            if seen[one] & seen[other]:
                left = next(group for group in groups if one in group)
                right = next(group for group in groups if other in group)
                if left is not right:
                    groups.remove(right)
                    left |= right
        return tuple(sorted(tuple(sorted(group)) for group in groups))

    def test_chains_of_groups(self):
        box = Box.rests("a", 4)
        at = [Machine("a", ((1,), (2,), (3,), (0,)), ends) for ends in ((0, 1), (2, 3), (1, 2), (3,))]
        self.assertEqual(box_groups(box, tuple(at)), ((0, 1, 2, 3),))
        self.assertEqual(box_groups(box, (at[0], at[1], at[3])), ((0,), (1, 2)))
        self.assertEqual(box_groups(box, (at[1], at[0], at[3])), ((0, 2), (1,)))


class WrongSights(unittest.TestCase):
    def test_wrong_arguments(self):
        place = Argument(1, number_from(0, 1), InvalidNumber, "value")
        machines = Argument((EVEN, ODD), lambda value: type(value) is tuple and 1 <= len(value) <= 8
                            and all(is_machine(part) for part in value), InvalidMachine)
        check_arguments(self, places, [MACHINE, BOX])
        check_arguments(self, word_to, [MACHINE, BOX, place])
        for call in (tells_apart, alike_pair, apart_paper):
            check_arguments(self, call, [MACHINE, MACHINE, BOX])
        for call in (is_alike_pair, is_apart_paper):
            check_arguments(self, lambda one, other, box: call(one, other, box, None), [MACHINE, MACHINE, BOX])
        check_arguments(self, is_seen, [MACHINE, BOX, WORD])
        check_arguments(self, guesses_of, [BOX, machines, WORD])
        check_arguments(self, box_groups, [BOX, machines])
        for wrong in ((EVEN,) * 9, (), [EVEN], (EVEN, None), (EVEN, (ODD,))):
            check_error(self, box_groups, (LATCH, wrong), InvalidMachine)
        self.assertEqual(box_groups(LATCH, (SOME,) * 8), (tuple(range(8)),))

    def test_unequal_letters(self):
        lone, strange = Machine("a", ((0,),)), Box("a", ((0,),))
        for values in ((lone, LATCH), (EVEN, strange)):
            check_error(self, places, values, InvalidOperation)
            check_error(self, word_to, values + (0,), InvalidOperation)
            check_error(self, word_to, values + (2,), InvalidNumber, "value", 2)
            check_error(self, is_seen, values + ("b",), InvalidOperation)
            check_error(self, is_seen, values + ("B",), InvalidWord)
            check_error(self, guesses_of, (values[1], (EVEN, lone), "a"), InvalidOperation)
            check_error(self, box_groups, (values[1], (EVEN, lone)), InvalidOperation)
        for values in ((lone, EVEN, LATCH), (EVEN, lone, LATCH), (EVEN, ODD, strange), (lone, lone, LATCH)):
            for call in (tells_apart, alike_pair, apart_paper):
                check_error(self, call, values, InvalidOperation)
            for call in (is_alike_pair, is_apart_paper):
                check_error(self, call, values + (None,), InvalidOperation)

    def test_foreign_letters(self):
        check_error(self, is_seen, (EVEN, LATCH, "abc"), InvalidOperation)
        check_error(self, guesses_of, (LATCH, (EVEN,), "abc"), InvalidOperation)

    def test_any_value_is_judged(self):
        for value in VALUES:
            pair = type(value) is tuple and len(value) == 2 and all(
                is_plain_word(part) and set(part) <= set("ab") and led_to(EVEN, part) in EVEN.ends for part in value)
            pair = pair and led_to(LATCH, value[0]) == led_to(LATCH, value[1])
            self.assertIs(is_alike_pair(EVEN, EVEN, LATCH, value), pair, repr(value))
            self.assertIs(is_apart_paper(EVEN, ODD, LATCH, value), False)
            self.assertIs(is_apart_paper(EVEN, ODD, SWITCH, value), value == (((0, 0), (1, 1)),) * 2)
            for other in VALUES:
                self.assertIs(is_alike_pair(NONE, SOME, LATCH, (value, other)), False)
                if not is_plain_word(value):
                    self.assertIs(is_alike_pair(EVEN, ODD, LATCH, (other, value)), False)
            self.assertIs(is_apart_paper(EVEN, ODD, SWITCH, (value, ((0, 0), (1, 1)))), value == ((0, 0), (1, 1)))

    def test_returned_values_are_plain(self):
        self.assertTrue(all(is_plain_number(place, 0, 1) for place in places(EVEN, LATCH)))
        for name in ("places", "word_to", "tells_apart", "alike_pair", "is_alike_pair", "is_seen", "apart_paper",
                     "is_apart_paper", "guesses_of", "box_groups"):
            self.assertEqual(getattr(sights, name).__module__, "watchkinds.boxes.sights")


if __name__ == "__main__":
    unittest.main()
