"""Rows of signs and walks there and back: steps, walks, stand-ins against small turners, blurs for the turners."""

import itertools
import math
import random
import re
import unittest

from plain import (CLOSES, EVEN, NONE, ODD, OPENS, SOME, VALUES, Argument, cancelled, check_arguments, check_error,
                   is_machine, is_plain_number, is_plain_walk, is_plain_word, led_to, number_from, plain_steps,
                   random_turner, some_machines, turner_number, words_up_to)
from watchkinds.base.joined import of_words, repeated
from watchkinds.base.machines import Machine
from watchkinds.errors import InvalidMachine, InvalidNumber, InvalidOperation, InvalidWord, TooMany
from watchkinds.turners import walks
from watchkinds.turners.walks import (MAX_LENGTH, are_alike, back_steps, is_full_walk, is_row, is_turners_blur, is_walk,
                                      opposite, row_of, short, signed_steps, stand_in, turners_words, way)

MANY = Machine("ab", ((1, 3), (1, 2), (3, 3), (3, 3)), (2,))
ONCE = Machine("ab", ((2, 1), (2, 2), (2, 2)), (1,))
WALK = ((0, "a", 1), (1, "A", 1), (1, "b", 2))


def is_plain_row(value):
    return isinstance(value, str) and re.fullmatch("[a-zA-Z]*", value) is not None


def is_plain_full(machine, value):
    if not is_plain_walk(machine, value):
        return False
    return (value[0][0] == 0 and value[-1][2] in machine.ends) if value else 0 in machine.ends


def first_way(machine, one, other):
    """The first word from a state to a state, among all words of less letters than there are states."""
    return next((word for word in words_up_to(machine.letters, len(machine) - 1)
                 if led_to(machine, word, one) == other), None)


def plain_stand_in(machine, walk, number):
    word = ""
    for state, sign, after in walk:
        if sign.islower():
            word += sign
        else:
            back = first_way(machine, state, after)
            word += back + (sign.lower() + back) * (number - 1)
    return word


def random_walk(some, machine, start, steps):
    """A walk of so many steps, made at random."""
    known = sorted(plain_steps(machine))
    walk, state = (), start
    for _ in range(steps):
        walk += (some.choice([step for step in known if step[0] == state]),)
        state = walk[-1][2]
    return walk


def followed(box, row, place):
    """The place to which the signs of a row lead, where back steps lead back."""
    for sign in row:
        if sign.islower():
            place = led_to(box, sign, place)
        else:
            place = [ahead for ahead in range(len(box.table)) if led_to(box, sign.lower(), ahead) == place][0]
    return place


def full_walks(machine, most):
    """All full walks of at most so many steps."""
    found = [((), 0)]
    for walk, state in found:
        if len(walk) < most:
            found.extend((walk + (step,), step[2]) for step in sorted(plain_steps(machine)) if step[0] == state)
    return [walk for walk, state in found if state in machine.ends]


def some_walked(seed, many=30):
    return [machine for letters in ("a", "ab", "abc") for machine in some_machines(letters, many, seed)]


class Rows(unittest.TestCase):
    def test_which_values_are_rows(self):
        for value in VALUES + ["aB", "Z", "A" * 400, "a" * 401, "a-", "aB1", "\u00e4", "\u00c4", "a ", "\u212a"]:
            self.assertIs(is_row(value), is_plain_row(value), repr(value))

    def test_short_rows_and_opposites(self):
        some = random.Random(31)
        for size in list(range(9)) * 30 + [400, 400]:
            row = "".join(some.choices("abAB" if size % 2 else "abcABC", k=size))
            self.assertEqual(short(row), cancelled(some, row))
            self.assertEqual(short(row), cancelled(some, row))
            self.assertEqual(opposite(row), "".join(sign.swapcase() for sign in reversed(row)))
            self.assertEqual(opposite(opposite(row)), row)
            self.assertEqual((short(row + opposite(row)), short(opposite(row) + row)), ("", ""))
            other = "".join(some.choices("abAB", k=some.randint(0, 6)))
            for two in (other, row + other + opposite(other), opposite(row)):
                self.assertIs(are_alike(row, two), cancelled(some, row) == cancelled(some, two))
        self.assertEqual((short("aAa"), short("abBA"), short("abAB"), short("zZ"), short("")), ("a", "", "abAB", "", ""))


class Steps(unittest.TestCase):
    def test_ways(self):
        for machine in some_walked(141):
            for one, other in itertools.product(range(len(machine)), repeat=2):
                self.assertEqual(way(machine, one, other), first_way(machine, one, other))

    def test_all_steps(self):
        for machine in some_walked(142) + [MANY, ONCE, EVEN, CLOSES]:
            self.assertEqual(signed_steps(machine), tuple(sorted(plain_steps(machine))))
        self.assertEqual(signed_steps(MANY), ((0, "a", 1), (0, "b", 3), (1, "A", 1), (1, "a", 1), (1, "b", 2),
                                              (2, "a", 3), (2, "b", 3), (3, "A", 3), (3, "B", 3), (3, "a", 3),
                                              (3, "b", 3)))


class Walks(unittest.TestCase):
    def check_walk(self, machine, value):
        expected = is_plain_walk(machine, value)
        self.assertIs(is_walk(machine, value), expected, repr(value))
        self.assertIs(is_full_walk(machine, value), is_plain_full(machine, value), repr(value))
        for call in (row_of, back_steps, lambda one, two: stand_in(one, two, 2)):
            if not expected:
                check_error(self, call, (machine, value), InvalidOperation)
        if expected:
            self.assertEqual(row_of(machine, value), "".join(sign for _, sign, _ in value))
            self.assertEqual(back_steps(machine, value), tuple(at for at, step in enumerate(value)
                                                               if step[1].isupper()))
        return expected

    def test_walks_and_such_near_them(self):
        some = random.Random(32)
        right = 0
        for machine in some_walked(143):
            for steps in (0, 1, 3, 6):
                walk = random_walk(some, machine, some.randrange(len(machine)), steps)
                self.assertIs(is_walk(machine, walk), True)
                self.check_walk(machine, walk)
                near = [list(walk), walk[::-1], walk[1:], walk + walk, walk + (None,), walk + ((0, "z", 0),)]
                for at, (state, sign, after) in enumerate(walk):
                    changed = [(state, sign.swapcase(), after), (after, sign.swapcase(), state), (after, sign, state),
                               (state, sign, (after + 1) % len(machine)), ((state + 1) % len(machine), sign, after),
                               [state, sign, after], (state, sign), (state, sign, after, 0), (state, None, after),
                               (bool(state), sign, after), (state, sign, bool(after)), (state, "", after),
                               (state, sign * 2, after), (-1, sign, after), (state, sign, len(machine))]
                    near += [walk[:at] + (step,) + walk[at + 1:] for step in changed] + [walk[:at] + walk[at + 1:]]
                for value in near:
                    right += self.check_walk(machine, value)
        self.assertGreater(right, 500)

    def test_full_walks(self):
        for machine in (MANY, ONCE, EVEN, ODD, OPENS, CLOSES):
            for walk in full_walks(machine, 3):
                self.assertIs(is_full_walk(machine, walk), True)
                self.check_walk(machine, walk)
            self.assertIs(is_full_walk(machine, ()), 0 in machine.ends)
        self.assertIs(is_full_walk(MANY, WALK[1:]), False)
        self.assertIs(is_full_walk(MANY, WALK[:2]), False)

    def test_any_value_is_judged(self):
        for machine in (MANY, EVEN):
            for value in VALUES:
                for made in (value, (value,), WALK[:2] + (value,), ((value, "a", 1),), ((0, value, 1),),
                             ((0, "a", value),)):
                    self.check_walk(machine, made)

    def test_stand_ins(self):
        some = random.Random(33)
        for machine in some_walked(144, 16):
            for steps in (0, 1, 2, 5):
                walk = random_walk(some, machine, some.randrange(len(machine)), steps)
                for number in (1, 2, 3, 7, 60):
                    word = stand_in(machine, walk, number)
                    self.assertEqual(word, plain_stand_in(machine, walk, number))
                    if walk:
                        self.assertEqual(led_to(machine, word, walk[0][0]), walk[-1][2])

    def test_stand_ins_lead_turners_as_the_steps(self):
        some = random.Random(34)
        for machine in some_walked(145, 16):
            for _ in range(4):
                walk = random_walk(some, machine, some.randrange(len(machine)), some.randint(1, 6))
                box = random_turner(some, machine.letters, some.randint(1, 4))
                number = turner_number(box)
                self.assertLessEqual(number, 60)
                word = stand_in(machine, walk, number)
                for place in range(len(box.table)):
                    self.assertEqual(led_to(box, word, place), followed(box, row_of(machine, walk), place))

    def test_as_many_letters_as_may_be(self):
        self.assertEqual(MAX_LENGTH, 100000)
        ring = Machine("ab", ((1, 0), (2, 1), (3, 2), (0, 3)), (0,))
        back = ((0, "A", 3), (3, "A", 2), (2, "A", 1), (1, "A", 0))
        # Each back step has three letters behind it, and then four for each further time.
        self.assertEqual(len(stand_in(ring, back * 104, 60)), 416 * (3 + 4 * 59))
        walk = back * 104 + ((0, "b", 0),) * 576
        self.assertEqual(len(stand_in(ring, walk, 60)), 100000)
        for more in ((0, "b", 0), (0, "A", 3)):
            check_error(self, stand_in, (ring, walk + (more,), 60), TooMany, "limit", 100000)
        self.assertEqual(len(stand_in(ring, walk + ((0, "b", 0),), 59)), 100001 - 416 * 4)
        loop = ((0, "B", 0),) * 400
        self.assertEqual(stand_in(ring, loop, 1), "")
        self.assertEqual(stand_in(ring, loop, 60), "b" * 400 * 59)

    def test_great_machines(self):
        machine = repeated(of_words("ab", ("aabab", "bab")))
        some = random.Random(35)
        self.assertGreater(len(machine), 5)
        self.assertEqual(signed_steps(machine), tuple(sorted(plain_steps(machine))))
        for _ in range(20):
            self.check_walk(machine, random_walk(some, machine, 0, 5))


class Blurs(unittest.TestCase):
    def is_plain_blur(self, one, other, value):
        if type(value) is not tuple or not value or type(value[0]) is not str:
            return False
        if value[0] == "word" and len(value) == 2:
            word = value[1]
            return is_plain_word(word) and set(word) <= set(one.letters) and word in one and word in other
        if value[0] != "walks" or len(value) != 3:
            return False
        if not is_plain_full(one, value[1]) or not is_plain_full(other, value[2]):
            return False
        rows = ["".join(step[1] for step in walk) for walk in value[1:]]
        some = random.Random(1)
        return cancelled(some, rows[0]) == cancelled(some, rows[1])

    def blurs_of(self, one, other, most):
        """All blurs with full walks of at most so many steps."""
        some = random.Random(2)
        firsts, seconds = ([(cancelled(some, "".join(step[1] for step in walk)), walk)
                            for walk in full_walks(machine, most)] for machine in (one, other))
        return [("walks", first, second) for row, first in firsts for held, second in seconds if row == held]

    def test_blurs_and_such_near_them(self):
        some = random.Random(36)
        pairs = [(MANY, ONCE), (ONCE, MANY), (EVEN, ODD), (EVEN, SOME), (NONE, SOME), (OPENS, ~OPENS)]
        machines = some_machines("ab", 30, 146, states=(2, 3))
        pairs += list(zip(machines[::2], machines[1::2]))
        right = 0
        for one, other in pairs:
            blurs = self.blurs_of(one, other, 3)
            made = some.sample(blurs, min(len(blurs), 20))
            ways = [full_walks(machine, 2) or [()] for machine in (one, other)]
            made += [("walks", some.choice(ways[0]), some.choice(ways[1])) for _ in range(20)]
            made += [("word", word) for word in words_up_to("ab", 2)]
            for blur in list(made):
                made += [list(blur), blur[:-1], blur + ((),), ("walk",) + blur[1:], blur[:1] + blur[:0:-1]]
                if blur[0] == "walks":
                    made += [("walks", blur[1] + blur[1][-1:], blur[2]), ("walks", blur[1][:-1], blur[2]),
                             ("walks", blur[1], list(blur[2]))]
            for value in made:
                expected = self.is_plain_blur(one, other, value)
                self.assertIs(is_turners_blur(one, other, value), expected, repr(value))
                right += expected
        self.assertGreater(right, 200)

    def test_any_value_is_judged(self):
        for one, other in ((MANY, ONCE), (EVEN, SOME)):
            for value in VALUES:
                for made in (value, ("word", value), (value, "b"), ("walks", value, ((0, "b", 1),)),
                             ("walks", WALK, value), (value, WALK, ((0, "b", 1),))):
                    self.assertIs(is_turners_blur(one, other, made), self.is_plain_blur(one, other, made), repr(made))

    def test_words_that_turners_lead_alike(self):
        some = random.Random(37)
        turners = [random_turner(some, "ab", places) for places in (1, 2, 2, 3, 3, 3, 3, 4, 4, 4, 4) for _ in range(3)]
        numbers = [turner_number(box) for box in turners]
        pairs = [(MANY, ONCE), (EVEN, EVEN), (NONE, SOME)] + list(itertools.pairwise(some_machines("ab", 14, 147)))
        for one, other in pairs:
            blurs = [blur for blur in self.blurs_of(one, other, 3) if "A" in str(blur) or "B" in str(blur)]
            for blur in some.sample(blurs, min(len(blurs), 4)):
                for number in (1, 2, 3, 4, 6):
                    left, right = turners_words(one, other, blur, number)
                    self.assertTrue(led_to(one, left) in one.ends and led_to(other, right) in other.ends)
                    if number <= 4:
                        for box, least in zip(turners, numbers):
                            if least <= number:
                                self.assertEqual([led_to(box, left, place) for place in range(len(box.table))],
                                                 [led_to(box, right, place) for place in range(len(box.table))])
        for number in range(1, 13):
            self.assertEqual(turners_words(EVEN, SOME, ("word", "aab"), number), ("aab", "aab"))
            times = math.lcm(*range(1, number + 1))
            found = turners_words(MANY, ONCE, ("walks", WALK, ((0, "b", 1),)), number)
            self.assertEqual(found, ("a" * times + "b", "b"))

    def test_words_that_are_too_long(self):
        all_words_of = Machine("ab", ((0, 0),), (0,))
        for number, backs in ((12, 3), (11, 3), (10, 39), (9, 39), (8, 119), (6, 1694)):
            times = math.lcm(*range(1, number + 1)) - 1
            walk = ((0, "A", 0),) * backs
            rest = ((0, "b", 0),) * (100000 - backs * times)
            row = row_of(all_words_of, walk + rest)
            self.assertGreaterEqual(len(rest), 0)
            self.assertEqual(short(row), row)
            blur = ("walks", walk + rest, walk + rest)
            found = turners_words(all_words_of, all_words_of, blur, number)
            self.assertEqual(found, ("a" * backs * times + "b" * len(rest),) * 2)
            over = walk + rest + ((0, "b", 0),)
            again = walk + ((0, "a", 0), (0, "A", 0)) + rest
            for value in (("walks", over, over), ("walks", walk + rest, again), ("walks", again, walk + rest)):
                check_error(self, turners_words, (all_words_of, all_words_of, value, number), TooMany, "limit", 100000)


class WrongWalks(unittest.TestCase):
    def test_wrong_arguments(self):
        row = Argument("aB", is_plain_row, InvalidWord)
        machine = Argument(MANY, is_machine, InvalidMachine)
        state = Argument(1, lambda value: is_plain_number(value, 0, 3), InvalidNumber, "value")
        walk = Argument(WALK, lambda value: is_plain_walk(MANY, value), InvalidOperation)
        number = Argument(3, number_from(1, 60), InvalidNumber, "value")
        for call in (opposite, short):
            check_arguments(self, call, [row])
        check_arguments(self, are_alike, [row, row])
        check_arguments(self, way, [machine, state, state])
        check_arguments(self, signed_steps, [machine])
        for call in (is_walk, is_full_walk):
            check_arguments(self, lambda one, call=call: call(one, None), [machine])
        for call in (row_of, back_steps):
            check_arguments(self, call, [machine, walk])
        check_arguments(self, stand_in, [machine, walk, number])
        other = Argument(ONCE, is_machine, InvalidMachine)
        check_arguments(self, lambda one, two: is_turners_blur(one, two, None), [machine, other])
        blur = Argument(("walks", WALK, ((0, "b", 1),)), lambda value: value == ("word", "b"), InvalidOperation)
        check_arguments(self, turners_words,
                        [machine, other, blur, Argument(3, number_from(1, 12), InvalidNumber, "value")])

    def test_errors_in_their_order(self):
        short_one = Machine("a", ((0,),))
        check_error(self, is_turners_blur, (EVEN, short_one, None), InvalidOperation)
        check_error(self, turners_words, (EVEN, short_one, None, 13), InvalidOperation)
        check_error(self, turners_words, (EVEN, SOME, ("word", "aa"), 13), InvalidNumber, "value", 13)
        check_error(self, stand_in, (MANY, ((3, "A", 3),) * 10 ** 5, 61), InvalidNumber, "value", 61)
        check_error(self, stand_in, (MANY, ((3, "A", 3),) * 10 ** 5, 60), TooMany, "limit", 100000)
        check_error(self, stand_in, (MANY, ((0, "A", 1),), 61), InvalidOperation)
        check_error(self, way, (MANY, 4, 5), InvalidNumber, "value", 4)
        check_error(self, way, (MANY, 3, 4), InvalidNumber, "value", 4)

    def test_defined_in_the_module(self):
        for name in ("is_row", "opposite", "short", "are_alike", "way", "signed_steps", "is_walk", "is_full_walk",
                     "row_of", "back_steps", "stand_in", "is_turners_blur", "turners_words"):
            self.assertEqual(getattr(walks, name).__module__, "watchkinds.turners.walks")


if __name__ == "__main__":
    unittest.main()
