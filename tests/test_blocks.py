"""Paths of letters and blocks, blurs for the pieces, rings and the ends of blocks, held against plain walks."""

import itertools
import random
import unittest

from plain import (CLOSES, EVEN, NONE, ODD, OPENS, SOME, VALUES, Argument, check_arguments, check_error, is_machine,
                   is_plain_letters, is_plain_number, is_plain_word, led_to, number_from, some_machines, words_up_to)
from watchkinds.base.joined import of_words, repeated
from watchkinds.base.machines import Machine
from watchkinds.base.words import pieces
from watchkinds.errors import InvalidMachine, InvalidNumber, InvalidOperation
from watchkinds.pieces import blocks
from watchkinds.pieces.blocks import (MAX_STEPS, block_ends, is_path, is_pieces_blur, path_ends, pieces_words,
                                      ring_letters)

BLOCK = ("block", ("", "ab", "a"), ("", "ab", ""))


def sets_of(letters):
    return ["".join(kept) for size in range(1, len(letters) + 1) for kept in itertools.combinations(letters, size)]


def plain_ring_letters(machine, state):
    """A walk over states and sets of letters."""
    queue = [(after, frozenset(letter)) for after, letter in zip(machine.table[state], machine.letters)]
    for here, used in queue:
        for after, letter in zip(machine.table[here], machine.letters):
            if (after, used | {letter}) not in queue:
                queue.append((after, used | {letter}))
    return {used for here, used in queue if here == state}


def plain_block_ends(machine, state, letters):
    def around(start):
        queue = [start]
        for here in queue:
            for letter in letters:
                after = led_to(machine, letter, here)
                if after not in queue:
                    queue.append(after)
        return queue

    return sorted({after for turned in around(state) if frozenset(letters) in plain_ring_letters(machine, turned)
                   for after in around(turned)})


def plain_path_ends(one, other, value):
    """The words of [10.1], step by step; None if the value is no good path."""
    if type(value) is not tuple or len(value) > 60:
        return None
    states = [0, 0]
    for step in value:
        if type(step) is not tuple or not step or type(step[0]) is not str:
            return None
        if step[0] == "letter" and len(step) == 2 and type(step[1]) is str and step[1] in list(one.letters):
            states = [led_to(machine, step[1], state) for machine, state in zip((one, other), states)]
            continue
        if step[0] != "block" or len(step) != 3 or any(type(side) is not tuple or len(side) != 3 for side in step[1:]):
            return None
        for side in step[1:]:
            if not all(is_plain_word(word) and set(word) <= set(one.letters) for word in side) or not side[1]:
                return None
            if not set(side[0] + side[2]) <= set(side[1]) or set(side[1]) != set(step[1][1]):
                return None
        for at, (machine, (to, ring, on)) in enumerate(zip((one, other), step[1:])):
            turned = led_to(machine, to, states[at])
            if led_to(machine, ring, turned) != turned:
                return None
            states[at] = led_to(machine, on, turned)
    return tuple(states)


def is_plain_blur(one, other, value):
    if type(value) is not tuple or len(value) != 2 or type(value[0]) is not str:
        return False
    if value[0] == "word":
        return is_plain_word(value[1]) and set(value[1]) <= set(one.letters) and value[1] in one and value[1] in other
    ends = plain_path_ends(one, other, value[1]) if value[0] == "blocks" else None
    return ends is not None and ends[0] in one.ends and ends[1] in other.ends


def have_same_pieces(one, other, number):
    """Whether words have the same pieces of at most so many letters, by the first places of all pieces."""
    ends = {(0, 0)}
    for _ in range(number):
        after = set()
        for left, right in ends:
            for letter in sorted(set(one + other)):
                pair = one.find(letter, left) + 1, other.find(letter, right) + 1
                if (pair[0] == 0) != (pair[1] == 0):
                    return False
                if pair[0]:
                    after.add(pair)
        if after == ends:
            return True
        ends = after
    return True


def random_side(some, machine, state, letters):
    """A side with just these letters from a state, found by trying, or None."""
    for _ in range(30):
        to = "".join(some.choices(letters, k=some.randint(0, 3)))
        ring = "".join(some.choices(letters, k=some.randint(1, 5)))
        turned = led_to(machine, to, state)
        if set(ring) == set(letters) and led_to(machine, ring, turned) == turned:
            return to, ring, "".join(some.choices(letters, k=some.randint(0, 3)))
    return None


def random_path(some, one, other, steps):
    """A good path, made at random."""
    path, states = (), (0, 0)
    while len(path) < steps:
        step = ("letter", some.choice(one.letters))
        letters = some.choice(sets_of(one.letters))
        sides = random_side(some, one, states[0], letters), random_side(some, other, states[1], letters)
        if None not in sides and some.random() < 0.7:
            step = ("block",) + sides
        path += (step,)
        states = plain_path_ends(one, other, path)
    return path


def some_pairs(letters, many, seed):
    machines = some_machines(letters, 2 * many, seed, states=(2, 3, 4, 4, 1, 3))
    return list(zip(machines[::2], machines[1::2]))


class Rings(unittest.TestCase):
    def test_letters_of_rings_and_ends_of_blocks(self):
        for letters in ("a", "ab", "abc", "xyz"):
            for machine in some_machines(letters, 60, 101):
                for state in range(len(machine)):
                    told = ring_letters(machine, state)
                    self.assertEqual(told, tuple(sorted("".join(sorted(used))
                                                        for used in plain_ring_letters(machine, state))))
                    for part in sets_of(letters):
                        self.assertEqual(block_ends(machine, state, part),
                                         tuple(plain_block_ends(machine, state, part)))

    def test_states_that_no_word_reaches(self):
        machine = Machine("ab", ((0, 0), (2, 0), (1, 2)), ())
        self.assertEqual(ring_letters(machine, 1), ("a", "ab"))
        self.assertEqual(block_ends(machine, 1, "a"), (1, 2))
        self.assertEqual(block_ends(machine, 1, "b"), (0,))
        self.assertEqual(block_ends(machine, 2, "b"), (2,))
        self.assertEqual(ring_letters(Machine("a", ((1,), (1,))), 0), ())
        self.assertEqual(block_ends(Machine("ab", ((1, 0), (1, 1))), 0, "a"), (1,))


class Paths(unittest.TestCase):
    def check_path(self, one, other, value):
        ends = plain_path_ends(one, other, value)
        self.assertIs(is_path(one, other, value), ends is not None, repr(value))
        if ends is None:
            check_error(self, path_ends, (one, other, value), InvalidOperation)
        else:
            self.assertEqual(path_ends(one, other, value), ends)
        self.assertIs(is_pieces_blur(one, other, ("blocks", value)),
                      is_plain_blur(one, other, ("blocks", value)))

    def near(self, some, letters, path):
        """Paths with one thing changed."""
        at = some.randrange(len(path))
        step = path[at]
        letter = some.choice(letters)
        changed = [("letter", letter), ("letter", letter, ""), ("block",) + step[1:], ("letter",) + step[1:], None,
                   list(step), step[:-1], step + ("",), ("letter", "ab"), ("letter", ""), ("letter", "z")]
        if step[0] == "block":
            for which in (1, 2):
                for part in range(3):
                    for word in ("", letter, step[which][part] + letter, step[which][part][1:], "z", None):
                        side = step[which][:part] + (word,) + step[which][part + 1:]
                        changed.append(step[:which] + (side,) + step[which + 1:])
                changed += [step[:which] + (side,) + step[which + 1:]
                            for side in (list(step[which]), step[which][:2], step[which] + ("",), ())]
            changed.append((step[0], step[2], step[1]))
        return [path[:at] + (other,) + path[at + 1:] for other in changed] + [list(path), path[0]]

    def test_good_paths_and_such_near_them(self):
        some = random.Random(15)
        for letters in ("a", "ab", "abc"):
            for one, other in some_pairs(letters, 50, 103):
                path = random_path(some, one, other, some.randint(1, 5))
                self.check_path(one, other, path)
                self.assertIs(is_path(one, other, path), True)
                for value in self.near(some, letters, path):
                    self.check_path(one, other, value)

    def test_as_many_steps_as_may_be(self):
        self.assertEqual(MAX_STEPS, 60)
        for step in (("letter", "a"), ("block", ("b", "ab", "a"), ("b", "ab", "")), ("letter", "b")):
            for many in (0, 1, 59, 60, 61, 62, 120):
                self.check_path(CLOSES, ~CLOSES, (step,) * many)
                self.assertIs(is_path(CLOSES, ~CLOSES, (step,) * many), many <= 60)
        self.assertEqual(path_ends(EVEN, ODD, ()), (0, 0))

    def test_long_words_in_paths(self):
        wide = ("block", ("a" * 400, "ab" * 200, "b" * 400), ("b" * 399, "ab" * 200, "a" * 399))
        self.check_path(EVEN, ODD, (wide,) * 60)
        self.check_path(EVEN, ODD, (wide, ("block", ("", "aab", ""), ("", "ab", ""))))
        self.assertIs(is_path(EVEN, ODD, (wide,) * 60), True)

    def test_any_value_is_judged(self):
        for one, other in ((CLOSES, ~CLOSES), (EVEN, ODD), (Machine("a", ((0,),)), Machine("a", ((0,),), (0,)))):
            for value in VALUES:
                made = [value, (value,), (("letter", value),), (BLOCK, value), (("block", value, BLOCK[2]),),
                        (("block", BLOCK[1], value),), ((value, "a"),), ((value,) + BLOCK[1:],),
                        (("block", (value, "ab", ""), BLOCK[2]),), (("block", ("", value, ""), ("", value, "")),),
                        (("block", BLOCK[1], ("", "ab", value)),)]
                for path in made:
                    self.check_path(one, other, path)
                for blur in (value, ("word", value), (value, ()), (value, ""), ["blocks", value], ("blocks",)):
                    self.assertIs(is_pieces_blur(one, other, blur), is_plain_blur(one, other, blur), repr(blur))


class Blurs(unittest.TestCase):
    def test_blurs_and_such_near_them(self):
        some = random.Random(16)
        right = 0
        for letters in ("a", "ab", "abc"):
            for one, other in some_pairs(letters, 60, 105):
                path = random_path(some, one, other, some.randint(0, 4))
                for left, last in ((one, other), (~one, other), (one, ~other), (~one, ~other), (one - other, other)):
                    for value in (("blocks", path), ("blocks", path[:-1]), ("blocks", path + path[:1])):
                        expected = is_plain_blur(left, last, value)
                        self.assertIs(is_pieces_blur(left, last, value), expected)
                        right += expected
                    for form in ("block", "word", "blocks ", "path", "", None, "counts", "walks"):
                        self.assertIs(is_pieces_blur(left, last, (form, path)), False)
                for word in words_up_to(letters, 3):
                    self.assertIs(is_pieces_blur(one, other, ("word", word)), word in one and word in other)
        self.assertGreater(right, 100)

    def check_words(self, one, other, blur, number):
        left, last = found = pieces_words(one, other, blur, number)
        self.assertIs(type(found), tuple)
        self.assertTrue(left in one and last in other)
        self.assertLessEqual(max(len(left), len(last)), 100000)
        if number <= 4:
            self.assertEqual(pieces(left, number), pieces(last, number))
        self.assertIs(have_same_pieces(left, last, number), True, (left, last, number))

    def test_words_for_all_numbers(self):
        some = random.Random(17)
        for letters in ("a", "ab", "abc"):
            for one, other in some_pairs(letters, 16, 107):
                path = random_path(some, one, other, some.randint(1, 4))
                ends = plain_path_ends(one, other, path)
                one = Machine(letters, one.table, tuple(sorted(set(one.ends) | {ends[0]})))
                other = Machine(letters, other.table, (ends[1],))
                for number in range(21) if letters == "ab" else (0, 1, 2, 3, 4, 9, 20):
                    self.check_words(one, other, ("blocks", path), number)
        blur = ("blocks", (BLOCK,))
        for number in range(21):
            self.check_words(CLOSES, ~CLOSES, blur, number)
        self.assertEqual(pieces_words(EVEN, SOME, ("word", "aab"), 20), ("aab", "aab"))
        self.assertEqual(pieces_words(NONE, EVEN, ("blocks", ()), 3), ("", ""))

    def test_words_of_greatest_blurs(self):
        wide = ("block", ("a" * 400, "ab" * 200, "b" * 400), ("b" * 399, "ab" * 200, "a" * 399))
        path = (wide,) * 60
        one = Machine("ab", EVEN.table, (path_ends(EVEN, ODD, path)[0],))
        other = Machine("ab", EVEN.table, (path_ends(EVEN, ODD, path)[1],))
        left, last = pieces_words(one, other, ("blocks", path), 20)
        self.assertTrue(left in one and last in other and len(left) <= 100000 and len(last) <= 100000)
        self.assertIs(have_same_pieces(left, last, 20), True)

    def test_a_plain_reading_of_pieces(self):
        words = words_up_to("ab", 5)
        for one, other in zip(words, words[3:] + words[:3]):
            for number in range(4):
                self.assertIs(have_same_pieces(one, other, number), pieces(one, number) == pieces(other, number))

    def test_machines_of_many_states(self):
        one = repeated(of_words("ab", ("aab", "babb")))
        other = of_words("ab", ("abab", "ba", "aaaa"))
        for state in range(len(one)):
            for part in ("a", "b", "ab"):
                self.assertEqual(block_ends(one, state, part), tuple(plain_block_ends(one, state, part)))
        some = random.Random(18)
        for _ in range(20):
            self.check_path(one, other, random_path(some, one, other, 4))

    def check_path(self, one, other, path):
        self.assertEqual(path_ends(one, other, path), plain_path_ends(one, other, path))


class WrongBlocks(unittest.TestCase):
    def test_wrong_arguments(self):
        one, other = Argument(CLOSES, is_machine, InvalidMachine), Argument(~CLOSES, is_machine, InvalidMachine)
        path = Argument((BLOCK,), lambda value: plain_path_ends(CLOSES, ~CLOSES, value) is not None, InvalidOperation)
        blur = Argument(("blocks", (BLOCK,)), lambda value: is_plain_blur(CLOSES, ~CLOSES, value), InvalidOperation)
        number = Argument(3, number_from(0, 20), InvalidNumber, "value")
        state = Argument(1, lambda value: is_plain_number(value, 0, 1), InvalidNumber, "value")
        part = Argument("ab", lambda value: is_plain_letters(value) and set(value) <= {"a", "b"}, InvalidOperation)
        for call in (is_path, is_pieces_blur):
            check_arguments(self, lambda left, right, call=call: call(left, right, None), [one, other])
            check_error(self, call, (EVEN, Machine("a", ((0,),)), None), InvalidOperation)
        check_arguments(self, path_ends, [one, other, path])
        check_arguments(self, pieces_words, [one, other, blur, number])
        check_arguments(self, ring_letters, [one, state])
        check_arguments(self, block_ends, [one, state, part])
        check_error(self, path_ends, (EVEN, Machine("abc", ((0, 0, 0),)), ()), InvalidOperation)
        check_error(self, pieces_words, (EVEN, Machine("a", ((0,),)), ("word", ""), -1), InvalidOperation)
        check_error(self, ring_letters, (OPENS, 3), InvalidNumber, "value", 3)
        for letters in ("c", "bc", "abc"):
            check_error(self, block_ends, (ODD, 0, letters), InvalidOperation)

    def test_defined_in_the_module(self):
        for name in ("is_path", "path_ends", "is_pieces_blur", "pieces_words", "ring_letters", "block_ends"):
            self.assertEqual(getattr(blocks, name).__module__, "watchkinds.pieces.blocks")


if __name__ == "__main__":
    unittest.main()
