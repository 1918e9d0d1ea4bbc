"""Clerks: what they see, which tell machines apart, and counts blurs where none does."""

import itertools
import math
import random
import time
import unittest

from plain import (CLOSES, EVEN, NONE, ODD, OPENS, SOME, VALUES, Argument, all_machines, check_arguments, check_error,
                   is_machine, is_plain_letters, is_plain_number, is_plain_word, led_to, number_from, some_machines,
                   words_up_to)
from test_rings import is_plain_blur, joined_pairs, looped_pairs, some_pairs
from watchkinds.base.joined import chained, of_words, repeated
from watchkinds.base.machines import Machine
from watchkinds.counts import finding
from watchkinds.counts.finding import (MAX_CLERK, MAX_SEARCHED, clerk_for, counts_blur, first_clerk, is_clerk_for,
                                       sight, sights)
from watchkinds.counts.rings import COUNT_SORTS, is_counts_blur
from watchkinds.errors import InvalidMachine, InvalidNumber, InvalidOperation, InvalidWord, TooMany


def seen_of(many, cap, modulus):
    """The words of [13.1]."""
    if many < cap + modulus:
        return many
    return next(number for number in itertools.count(cap) if (number - many) % modulus == 0)


def plain_sights(machine, cap, modulus):
    """All that a clerk sees of words, letter by letter; it sees alike what letters make of what it sees alike."""
    found = {(0, tuple(0 for _ in machine.letters))}
    queue = list(found)
    for state, seen in queue:
        for at, letter in enumerate(machine.letters):
            more = seen[:at] + (seen_of(seen[at] + 1, cap, modulus),) + seen[at + 1:]
            key = led_to(machine, letter, state), more
            if key not in found:
                found.add(key)
                queue.append(key)
    return {seen for state, seen in found if state in machine.ends}


def clerks_of(sort, most):
    """All clerks for a sort, the one with the least sum first, and of several the one with the least cap."""
    found = [(cap, modulus) for cap in range(most + 1) for modulus in range(1, most + 1)
             if {"caps": modulus == 1, "sums": cap == 0, "clerks": True}[sort]]
    return sorted(found, key=lambda clerk: (sum(clerk), clerk[0]))


def tells_plainly(one, other, clerk):
    return not plain_sights(one, *clerk) & plain_sights(other, *clerk)


class Sights(unittest.TestCase):
    def test_constants(self):
        self.assertEqual((MAX_SEARCHED, MAX_CLERK), (4, 12))

    def test_sights_of_words(self):
        for cap in (0, 1, 2, 5, 39, 40):
            for modulus in (1, 2, 3, 7, 39, 40):
                for many in list(range(12)) + [39, 40, 41, 79, 80, 81, 399, 400]:
                    word = "a" * many
                    self.assertEqual(sight("ab", cap, modulus, word + "b"[:400 - many]),
                                     (seen_of(many, cap, modulus), seen_of(min(1, 400 - many), cap, modulus)))
        self.assertEqual(sight("abc", 1, 2, "cacacac"), (1, 0, 2))

    def test_sights_of_machines(self):
        for letters, most in (("a", 12), ("ab", 8), ("abc", 5)):
            for machine in some_machines(letters, 24, 131):
                for cap, modulus in ((0, 1), (1, 1), (0, 2), (2, 1), (1, 2), (0, 3), (2, 2), (3, 2)):
                    told = sights(machine, cap, modulus)
                    self.assertEqual(told, tuple(sorted(plain_sights(machine, cap, modulus))))
                    for word in words_up_to(letters, most)[::3]:
                        if led_to(machine, word) in machine.ends:
                            self.assertIn(sight(letters, cap, modulus, word), told)

    def test_greatest_clerks(self):
        machine = some_machines("abc", 8, 132, states=(4,))[0]
        for cap, modulus in ((12, 12), (0, 12), (12, 1)):
            self.assertEqual(sights(machine, cap, modulus), tuple(sorted(plain_sights(machine, cap, modulus))))
        self.assertEqual(sights(EVEN - EVEN, 12, 12), ())
        self.assertEqual(sights(Machine("a", ((0,),), (0,)), 12, 12), tuple((number,) for number in range(24)))


class Clerks(unittest.TestCase):
    def test_first_clerks(self):
        seen = {sort: set() for sort in COUNT_SORTS}
        for one, other in some_pairs(24):
            for sort in COUNT_SORTS:
                for most in (1, 2, 4):
                    telling = [clerk for clerk in clerks_of(sort, most) if tells_plainly(one, other, clerk)]
                    first = telling[0] if telling else None
                    self.assertEqual(first_clerk(one, other, sort, most), first)
                    found = clerk_for(one, other, sort, most)
                    self.assertIs(found is None, first is None)
                    self.assertTrue(found is None or found in telling)
                    seen[sort].add(first)
        for sort in COUNT_SORTS:
            self.assertGreater(len(seen[sort]), 3, seen)

    def test_what_is_a_clerk(self):
        some = random.Random(26)
        for one, other in some.sample(some_pairs(24), 20) + [(EVEN, ODD), (NONE, SOME)]:
            for sort in COUNT_SORTS:
                clerks = clerks_of(sort, 12)
                for cap, modulus in itertools.product((0, 1, 2, 3, 12, 13, -1), (0, 1, 2, 3, 12, 13)):
                    expected = (cap, modulus) in clerks and (cap + modulus < 9 or len(one.letters) < 3)
                    if expected:
                        expected = tells_plainly(one, other, (cap, modulus))
                    elif (cap, modulus) in clerks:
                        continue
                    self.assertIs(is_clerk_for(one, other, sort, (cap, modulus)), expected)
        for value in VALUES:
            expected = type(value) is tuple and value in ((1, 1), (1, 2)) and bool not in map(type, value)
            self.assertIs(is_clerk_for(NONE, SOME, "clerks", value), expected, repr(value))
            self.assertIs(is_clerk_for(NONE, SOME, "caps", (value, 1)),
                          is_plain_number(value, 1, 12), repr(value))
            self.assertIs(is_clerk_for(EVEN, ODD, "sums", (0, value)),
                          is_plain_number(value, 1, 12) and value % 2 == 0, repr(value))

    def test_clerks_of_the_bounds(self):
        twelve = Machine("a", ((1,), (2,), (0,)), (0,)), Machine("a", ((1,), (2,), (3,), (0,)), (1,))
        self.assertEqual(first_clerk(*twelve, "sums", 12), None)
        tail = of_words("a", ("a" * 6,)), of_words("a", ("a" * 5,))
        long = chained(*tail), chained(tail[0], tail[0])
        self.assertEqual(first_clerk(*long, "caps", 12), (12, 1))
        self.assertIsNone(first_clerk(*long, "caps", 11))
        self.assertEqual(first_clerk(*long, "sums", 12), (0, 2))
        rings = [Machine("ab", ((1, 0), (2, 1), (0, 2)), (end,)) for end in (0, 1)]
        self.assertEqual([first_clerk(*rings, "sums", most) for most in (1, 2, 3, 12)], [None, None, (0, 3), (0, 3)])
        self.assertIs(is_clerk_for(*rings, "sums", (0, 12)), True)
        self.assertIs(is_clerk_for(*rings, "sums", (0, 15)), False)
        self.assertIs(is_clerk_for(*long, "caps", (12, 1)), True)
        self.assertIs(is_clerk_for(*long, "caps", (13, 1)), False)

    def test_moduli_of_great_rings(self):
        one = of_words("a", ("a",))
        for modulus, rest in ((7, 1), (8, 4), (9, 3), (11, 2)):
            whole = parted = one
            for _ in range(modulus - 1):
                whole = chained(whole, one)
            for _ in range(rest - 1):
                parted = chained(parted, one)
            ring = repeated(whole)
            self.assertEqual(len(ring), modulus)
            for sort in ("sums", "clerks"):
                for other in (chained(parted, ring), chained(ring, parted)):
                    for most in (6, modulus - 1, modulus, 12):
                        expected = (0, modulus) if most >= modulus else None
                        self.assertEqual(first_clerk(ring, other, sort, most), expected)
                        self.assertEqual(clerk_for(ring, other, sort, most), expected)
                    self.assertIsNone(first_clerk(ring, other, "caps", 12))
                    self.assertEqual(first_clerk(ring - one, one, "caps", 12), (2, 1))
            self.assertEqual(first_clerk(ring | one, chained(parted, ring) - one, "sums", 12),
                             None if rest == 1 else (0, modulus))

    def test_greater_clerks_tell_too(self):
        for one, other in some_pairs(20):
            for sort in COUNT_SORTS:
                first = first_clerk(one, other, sort, 3)
                if first is not None:
                    for cap, modulus in clerks_of(sort, 6):
                        if cap >= first[0] and modulus % first[1] == 0:
                            self.assertIs(is_clerk_for(one, other, sort, (cap, modulus)), True)


class Blurs(unittest.TestCase):
    def check_both(self, one, other, sort, finest=False):
        blur = counts_blur(one, other, sort)
        clerk = first_clerk(one, other, sort, 12)
        self.assertNotEqual(blur is None, clerk is None, (sort, one.table, one.ends, other.table, other.ends))
        if blur is None:
            self.assertIs(is_clerk_for(one, other, sort, clerk), True)
            return None
        great = {"caps": [(7, 1)], "sums": [(0, 6), (0, 7)], "clerks": [(3, 3), (2, 4)]}[sort]
        for told in great + ([(0 if sort == "sums" else 12, 1 if sort == "caps" else 12)] if finest else []):
            self.assertIs(is_clerk_for(one, other, sort, told), False)
        self.assertIs(is_counts_blur(one, other, sort, blur), True)
        self.assertIs(is_plain_blur(one, other, sort, blur), True, blur)
        if blur[0] == "counts":
            for word, turns in blur[2:]:
                self.assertLessEqual(max(len(part) for part in [word] + [turn[1] for turn in turns]), 190)
                self.assertLessEqual(max((abs(turn[2]) for turn in turns), default=0), 10 ** 6)
                self.assertLessEqual(len(turns), 1000)
        return blur

    def test_just_one_is_there(self):
        seen = {}
        for one, other in some_pairs(70):
            for sort in COUNT_SORTS:
                blur = self.check_both(one, other, sort)
                key = sort, blur if blur is None else blur[0]
                seen[key] = seen.get(key, 0) + 1
        self.assertGreater(min(seen[sort, form] for sort in COUNT_SORTS for form in (None, "word", "counts")), 20, seen)

    def test_rings_that_are_gone_round_just_so_often(self):
        ways = {}
        pairs = joined_pairs(150, 134) + looped_pairs(350, 135)
        # Words a*b and ba: their counts are equal if the ring a is gone round once.
        only = Machine("ab", ((0, 1), (2, 2), (2, 2)), (1,))
        pairs += [(only, of_words("ab", ("ba",)))]
        # Words a*b and b*aa: the ring a is gone round twice, and the ring b once; then so in other machines.
        more = Machine("ab", ((1, 0), (2, 3), (3, 3), (3, 3)), (2,))
        pairs += [(only, more), (more, only), (Machine("ab", ((2, 1), (2, 2), (0, 3), (3, 3)), (1,)), more)]
        for one, other in pairs:
            for sort in COUNT_SORTS:
                blur = self.check_both(one, other, sort)
                if blur is not None and blur[0] == "counts":
                    bound = [turn for side in blur[2:] for turn in side[1] if not set(turn[1]) <= set(blur[1])]
                    ways[sort, len(blur[1]), bool(bound)] = (one, other, blur)
        for sort in ("caps", "clerks"):
            for large in (0, 1, 2):
                self.assertIn((sort, large, True), ways)

    def test_all_pairs_of_two_states(self):
        some = random.Random(27)
        ones = [machine for states in (1, 2) for machine in all_machines("a", states)]
        twos = [machine for states in (1, 2) for machine in all_machines("ab", states)]
        pairs = list(itertools.product(ones, repeat=2)) + [some.sample(twos, 2) for _ in range(150)]
        for one, other in pairs:
            for sort in COUNT_SORTS:
                self.check_both(one, other, sort)

    def test_pairs_that_only_great_clerks_tell(self):
        four, three = Machine("a", ((1,), (2,), (3,), (0,)), (0,)), Machine("a", ((1,), (2,), (0,)), (0,))
        for one, other in ((four, three), (four, ~four), (three, ~three), (four - three, three - four)):
            if max(len(one), len(other)) <= 4:
                for sort in COUNT_SORTS:
                    self.check_both(one, other, sort)
        self.assertEqual(first_clerk(four, ~four, "sums", 12), (0, 4))

    def test_blurs_of_finer_sorts(self):
        many = 0
        for one, other in some_pairs(70):
            blur = counts_blur(one, other, "clerks")
            if blur is not None and blur[0] == "counts":
                many += 1
                self.assertIs(is_counts_blur(one, other, "caps", blur), True)
                self.assertIs(is_counts_blur(one, other, "sums", ("counts", one.letters) + blur[2:]), True)
        self.assertGreater(many, 20)

    def test_more_states_than_may_be(self):
        five = of_words("ab", ("aaa",))
        self.assertEqual(len(five), 5)
        for one, other in ((five, EVEN), (EVEN, five), (five, five), (~five, EVEN), (EVEN | five, EVEN),
                           (chained(five, OPENS), EVEN), (OPENS, chained(EVEN, five))):
            for sort in COUNT_SORTS:
                check_error(self, counts_blur, (one, other, sort), TooMany, "limit", 4)
                found = first_clerk(one, other, sort, 4)
                self.assertEqual(found, next((clerk for clerk in clerks_of(sort, 4)
                                              if tells_plainly(one, other, clerk)), None))
        check_error(self, counts_blur, (five, Machine("a", ((0,),)), "caps"), InvalidOperation)
        self.assertEqual(counts_blur(EVEN, of_words("ab", ("aa",)), "caps"), ("word", "aa"))

    def test_machines_without_words(self):
        empty = EVEN - EVEN
        for sort in COUNT_SORTS:
            for one, other in ((empty, EVEN), (EVEN, empty), (empty, empty)):
                self.assertIsNone(counts_blur(one, other, sort))
                self.assertEqual(first_clerk(one, other, sort, 12), (0, 1))
            for machine in (EVEN, OPENS, CLOSES):
                self.assertIs(is_counts_blur(machine, machine, sort, counts_blur(machine, machine, sort)), True)
                self.assertIsNone(clerk_for(machine, machine, sort, 12))

    def test_greatest_machines_take_no_long(self):
        machines = some_machines("abc", 12, 133, states=(4,))
        slowest = 0
        for one, other in zip(machines[::2], machines[1::2]):
            for left, right in ((one, other), (one, ~one)):
                for sort in COUNT_SORTS:
                    start = time.monotonic()
                    self.check_both(left, right, sort, True)
                    slowest = max(slowest, time.monotonic() - start)
        self.assertLess(slowest, 20)

    def test_rests_by_the_greatest_numbers(self):
        ring = math.lcm(3, 4)
        one = Machine("a", ((1,), (2,), (3,), (1,)), (1,))
        other = Machine("a", ((1,), (2,), (3,), (0,)), (3,))
        self.assertEqual(ring, 12)
        for sort in COUNT_SORTS:
            self.check_both(one, other, sort)


class WrongClerks(unittest.TestCase):
    def test_wrong_arguments(self):
        machine, other = Argument(NONE, is_machine, InvalidMachine), Argument(SOME, is_machine, InvalidMachine)
        sort = Argument("sums", lambda value: type(value) is str and value in COUNT_SORTS, InvalidOperation)
        letters, word = Argument("ab", is_plain_letters, InvalidOperation), Argument("ab", is_plain_word, InvalidWord)
        cap, modulus = (Argument(2, number_from(least, 40), InvalidNumber, "value") for least in (0, 1))
        check_arguments(self, sight, [letters, cap, modulus, word])
        cap, modulus = (Argument(2, number_from(least, 12), InvalidNumber, "value") for least in (0, 1))
        check_arguments(self, sights, [machine, cap, modulus])
        check_arguments(self, counts_blur, [machine, other, sort])
        for call in (clerk_for, first_clerk):
            check_arguments(self, call, [machine, other, sort, Argument(2, number_from(1, 12), InvalidNumber, "value")])
        check_arguments(self, lambda one, two, three: is_clerk_for(one, two, three, None), [machine, other, sort])

    def test_errors_in_their_order(self):
        short = Machine("a", ((0,),))
        for call in (clerk_for, first_clerk):
            check_error(self, call, (EVEN, short, "caps", 13), InvalidNumber, "value", 13)
            check_error(self, call, (EVEN, short, "caps", 12), InvalidOperation)
            check_error(self, call, (EVEN, short, "last", 13), InvalidOperation)
        check_error(self, is_clerk_for, (EVEN, short, "caps", (1, 1)), InvalidOperation)
        check_error(self, counts_blur, (EVEN, short, "caps"), InvalidOperation)
        check_error(self, sight, ("ab", 0, 1, "abc"), InvalidOperation)
        check_error(self, sight, ("ab", 41, 1, "abc"), InvalidNumber, "value", 41)
        for value in (13, 40):
            check_error(self, sights, (EVEN, value, 1), InvalidNumber, "value", value)
            check_error(self, sights, (EVEN, 1, value), InvalidNumber, "value", value)

    def test_defined_in_the_module(self):
        for name in ("sight", "sights", "counts_blur", "clerk_for", "is_clerk_for", "first_clerk"):
            self.assertEqual(getattr(finding, name).__module__, "watchkinds.counts.finding")


if __name__ == "__main__":
    unittest.main()
