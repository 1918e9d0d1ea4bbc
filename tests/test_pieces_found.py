"""What pieces tell apart: blurs, closed sets and least numbers, held against classes of words and plain walks."""

import itertools
import random
import time
import unittest

from plain import (CLOSES, EVEN, NONE, ODD, OPENS, SOME, VALUES, Argument, all_machines, check_arguments, check_error,
                   is_machine, is_plain_number, led_to, number_from, plain_pieces, some_machines)
from test_blocks import is_plain_blur, plain_block_ends, sets_of
from watchkinds.base.joined import of_words, repeated
from watchkinds.base.machines import Machine
from watchkinds.base.words import pieces
from watchkinds.errors import InvalidMachine, InvalidNumber, InvalidOperation
from watchkinds.pieces import finding
from watchkinds.pieces.blocks import is_pieces_blur, pieces_words
from watchkinds.pieces.finding import (MAX_PIECES, are_told_by_pieces, is_pieces_clear, least_pieces, pieces_blur,
                                       pieces_clear, pieces_pair)


class Leads:
    """All pairs to which a step leads from a pair, by plain walks."""

    def __init__(self, one, other):
        self.machines = one, other
        self.ends = [{(state, part): plain_block_ends(machine, state, part) for state in range(len(machine))
                      for part in sets_of(machine.letters)} for machine in self.machines]

    def after(self, pair):
        one, other = self.machines
        found = {(led_to(one, letter, pair[0]), led_to(other, letter, pair[1])) for letter in one.letters}
        for part in sets_of(one.letters):
            found |= set(itertools.product(self.ends[0][pair[0], part], self.ends[1][pair[1], part]))
        return found

    def distances(self):
        """How many steps lead to each pair."""
        found = {(0, 0): 0}
        layer = [(0, 0)]
        while layer:
            layer = sorted({after for pair in layer for after in self.after(pair)} - set(found))
            for pair in layer:
                found[pair] = max(found.values()) + (pair == layer[0])
        return found


def is_plain_clear(one, other, value, leads):
    if type(value) is not tuple or any(type(pair) is not tuple or len(pair) != 2 for pair in value):
        return False
    if not all(is_plain_number(left, 0, len(one) - 1) and is_plain_number(right, 0, len(other) - 1)
               for left, right in value):
        return False
    if list(value) != sorted(set(value)) or (0, 0) not in value:
        return False
    if any(left in one.ends and right in other.ends for left, right in value):
        return False
    return all(leads.after(pair) <= set(value) for pair in value)


def class_ends(machine, most):
    """All sets of pieces of at most so many letters that words of the machine have, by all classes of words."""
    found = {(0, frozenset([""]))}
    queue = list(found)
    for state, seen in queue:
        for letter in machine.letters:
            longer = {piece + letter for piece in seen if len(piece) < most}
            key = led_to(machine, letter, state), seen | longer
            if key not in found:
                found.add(key)
                queue.append(key)
    return {seen for state, seen in found if state in machine.ends}


def some_pairs():
    some = random.Random(21)
    small = [machine for states in (1, 2) for machine in all_machines("ab", states)]
    found = [(some.choice(small), some.choice(small)) for _ in range(60)]
    for letters, many in (("a", 40), ("ab", 90), ("abc", 40)):
        machines = some_machines(letters, 2 * many, 111, states=(4, 3, 2, 4))
        found += list(zip(machines[::2], machines[1::2]))
    found += [(machine, ~machine) for machine in some_machines("ab", 40, 113, states=(3, 4))]
    few = [EVEN, ODD, CLOSES, OPENS, SOME, NONE, of_words("ab", ("ab",)), repeated(of_words("ab", ("ab",)))]
    found += [(of_words("a", ("aa",)), of_words("a", ("aaa",))), (of_words("ab", ("abab",)), of_words("ab", ("abba",)))]
    return found + [(one, other) for one in few for other in few]


class Finding(unittest.TestCase):
    def test_just_one_is_there(self):
        seen = {True: 0, False: 0}
        for one, other in some_pairs():
            leads = Leads(one, other)
            blur, clear = pieces_blur(one, other), pieces_clear(one, other)
            self.assertIs(blur is None, clear is not None)
            self.assertIs(are_told_by_pieces(one, other), clear is not None)
            seen[blur is None] += 1
            distances = leads.distances()
            if blur is None:
                self.assertIs(is_pieces_clear(one, other, clear), True)
                self.assertIs(is_plain_clear(one, other, clear, leads), True)
            else:
                self.assertIs(is_pieces_blur(one, other, blur), True)
                self.assertIs(is_plain_blur(one, other, blur), True)
                fewest = min(steps for (left, right), steps in distances.items()
                             if left in one.ends and right in other.ends)
                if blur[0] == "blocks":
                    self.assertEqual(len(blur[1]), fewest)
                    words = [word for step in blur[1] if step[0] == "block" for side in step[1:] for word in side]
                    self.assertLessEqual(max(map(len, words), default=0), 400)
        self.assertGreater(min(seen.values()), 40)

    def test_closed_sets_and_such_near_them(self):
        some = random.Random(22)
        right = 0
        for one, other in some.sample(some_pairs(), 150):
            leads = Leads(one, other)
            least = tuple(sorted(leads.distances()))
            everything = list(itertools.product(range(len(one)), range(len(other))))
            near = [least, least[:-1], least[1:], least[::-1], list(least), least + least[-1:], (), tuple(everything),
                    tuple(map(list, least)), tuple((left, other_state, 0) for left, other_state in least)]
            near += [tuple(sorted(set(least) | {pair})) for pair in everything]
            near += [tuple(pair for pair in least if pair != lacking) for lacking in least]
            near += [tuple((bool(pair[0]) if pair[0] < 2 else pair[0], pair[1]) for pair in least)]
            for value in near:
                expected = is_plain_clear(one, other, value, leads)
                self.assertIs(is_pieces_clear(one, other, value), expected, value)
                right += expected
        self.assertGreater(right, 150)
        self.assertIs(is_pieces_clear(NONE, EVEN - EVEN, ((0, 0), (0, 1))), False)

    def test_any_value_is_judged(self):
        leads = Leads(SOME, NONE)
        for value in VALUES:
            for made in (value, (value,), ((0, 0), value), ((0, 0), (1, value)), ((value, 0), (1, 1))):
                self.assertIs(is_pieces_clear(SOME, NONE, made), is_plain_clear(SOME, NONE, made, leads), repr(made))

    def test_what_is_returned_is_passed_on(self):
        for one, other in some_pairs()[::9]:
            blur = pieces_blur(one, other)
            if blur is not None:
                for number in (0, 1, 3, 4, 20):
                    left, right = pieces_words(one, other, blur, number)
                    self.assertTrue(left in one and right in other)
                    if number <= 4:
                        self.assertEqual(pieces(left, number), pieces(right, number))

    def test_greatest_machines_take_no_long(self):
        machines = some_machines("abc", 60, 115, states=(4,))
        start = time.monotonic()
        for one, other in zip(machines[::2], machines[1::2]):
            self.assertIs(pieces_blur(one, other) is None, pieces_clear(one, other) is not None)
            self.assertIs(pieces_pair(one, other, 2) is None, least_pieces(one, other, 2) is not None)
        self.assertLess(time.monotonic() - start, 60)


class Numbers(unittest.TestCase):
    def test_least_numbers_and_pairs(self):
        seen = set()
        for one, other in some_pairs()[::-2] + some_pairs()[-65:-64]:
            most = 2 if len(one.letters) == 3 else 3
            shared = [class_ends(one, number) & class_ends(other, number) for number in range(most + 1)]
            least = next((number for number in range(most + 1) if not shared[number]), None)
            seen.add(least)
            for number in range(most + 1):
                expected = least if least is not None and least <= number else None
                self.assertEqual(least_pieces(one, other, number), expected)
                pair = pieces_pair(one, other, number)
                self.assertIs(pair is None, not shared[number])
                if pair is not None:
                    left, right = pair
                    self.assertIs(type(pair), tuple)
                    self.assertTrue(left in one and right in other)
                    self.assertEqual(pieces(left, number), pieces(right, number))
                    self.assertEqual(pieces(left, number), tuple(plain_pieces(left, number)))
            if least is not None:
                self.assertIs(are_told_by_pieces(one, other), True)
        self.assertTrue({None, 0, 1, 2, 3} <= seen, seen)

    def test_bounds(self):
        self.assertEqual(MAX_PIECES, 3)
        of_three = Machine("abc", ((0, 0, 0),)), Machine("abc", ((0, 0, 0),), (0,))
        for call in (least_pieces, pieces_pair):
            for most in (0, 1, 2, 3):
                call(EVEN, ODD, most)
            for most in (0, 1, 2):
                call(*of_three, most)
            check_error(self, call, (EVEN, ODD, 4), InvalidNumber, "value", 4)
            check_error(self, call, (*of_three, 3), InvalidNumber, "value", 3)
        self.assertEqual((least_pieces(*of_three, 0), pieces_pair(*of_three, 2)), (0, None))

    def test_machines_of_many_states(self):
        one, other = of_words("ab", ("aabb", "abab")), of_words("ab", ("abba", "baab"))
        self.assertEqual((least_pieces(one, other, 3), are_told_by_pieces(one, other)), (3, True))
        self.assertIs(is_pieces_clear(one, other, pieces_clear(one, other)), True)
        ring = repeated(of_words("ab", ("aabb",)))
        self.assertIs(is_pieces_blur(ring, ~ring, pieces_blur(ring, ~ring)), True)


class WrongFinding(unittest.TestCase):
    def test_wrong_arguments(self):
        one, other = Argument(SOME, is_machine, InvalidMachine), Argument(NONE, is_machine, InvalidMachine)
        most = Argument(2, number_from(0, 3), InvalidNumber, "value")
        for call in (pieces_blur, pieces_clear, are_told_by_pieces):
            check_arguments(self, call, [one, other])
        check_arguments(self, lambda left, right: is_pieces_clear(left, right, None), [one, other])
        for call in (least_pieces, pieces_pair):
            check_arguments(self, call, [one, other, most])
            check_error(self, call, (EVEN, Machine("a", ((0,),)), -1), InvalidOperation)
        for call in (pieces_blur, pieces_clear, are_told_by_pieces):
            check_error(self, call, (Machine("abc", ((0, 0, 0),)), EVEN), InvalidOperation)
        check_error(self, is_pieces_clear, (Machine("abc", ((0, 0, 0),)), EVEN, ((0, 0),)), InvalidOperation)

    def test_defined_in_the_module(self):
        for name in ("pieces_blur", "pieces_clear", "is_pieces_clear", "are_told_by_pieces", "least_pieces",
                     "pieces_pair"):
            self.assertEqual(getattr(finding, name).__module__, "watchkinds.pieces.finding")


if __name__ == "__main__":
    unittest.main()
