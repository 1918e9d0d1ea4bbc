"""Readings of words by two machines: maps of words, maps one behind the other, rounds and hits."""

import itertools
import random
import time
import unittest

from plain import (CLOSES, EVEN, NONE, ODD, OPENS, SOME, VALUES, Argument, check_arguments, check_error, is_machine,
                   is_plain_number, is_plain_word, led_to, some_machines, some_pairs, words_up_to)
from watchkinds.base.joined import of_words
from watchkinds.base.machines import Machine, least_machine
from watchkinds.errors import InvalidMachine, InvalidOperation, InvalidWord, TooMany
from watchkinds.latches.images import (MAX_READINGS, behind_map, first_words_of_maps, is_map, map_hits, map_of,
                                       map_rounds, maps_of_words)


def plain_map(one, other, word):
    return tuple(tuple(led_to(machine, word, state) for state in range(len(machine))) for machine in (one, other))


def is_plain_map(one, other, value):
    if type(value) is not tuple or len(value) != 2:
        return False
    return all(type(part) is tuple and len(part) == len(machine)
               and all(is_plain_number(state, 0, len(machine) - 1) for state in part)
               for machine, part in zip((one, other), value))


def plain_behind(left, right):
    return tuple(tuple(second[state] for state in first) for first, second in zip(left, right))


def plain_words_of_maps(one, other, most=None):
    """The first words of all maps, found letter by letter; of at most so many maps."""
    found = {}
    queue = [""]
    for word in queue:
        made = plain_map(one, other, word)
        if made not in found:
            found[made] = word
            if most is not None and len(found) > most:
                return None
            queue.extend(word + letter for letter in one.letters)
    return found


def random_map(some, one, other):
    return tuple(tuple(some.randrange(len(machine)) for _ in range(len(machine))) for machine in (one, other))


def circle(many):
    """A machine of one letter with the words of which the length is a multiple."""
    return least_machine("a", tuple(((at + 1) % many,) for at in range(many)), (0,))


def tail(many):
    """A machine of one letter with one word, and with so many states ahead of the last one."""
    return least_machine("a", tuple((min(at + 1, many),) for at in range(many + 1)), (many - 1,))


class Maps(unittest.TestCase):
    def test_maps_of_words(self):
        for one, other in some_pairs(24, 601):
            for word in words_up_to(one.letters, 3) + ["a" * 400]:
                self.assertEqual(map_of(one, other, word), plain_map(one, other, word))
                self.assertIs(is_map(one, other, map_of(one, other, word)), True)

    def test_all_maps_in_the_order_of_their_first_words(self):
        many = 0
        for one, other in some_pairs(80, 602) + [(EVEN, ODD), (CLOSES, OPENS), (SOME, NONE)]:
            expected = plain_words_of_maps(one, other, 64)
            if expected is None:
                check_error(self, maps_of_words, (one, other), TooMany, "limit", 64)
                check_error(self, first_words_of_maps, (one, other), TooMany, "limit", 64)
                continue
            many += 1
            self.assertEqual(maps_of_words(one, other), tuple(expected))
            words = first_words_of_maps(one, other)
            self.assertEqual(words, expected)
            self.assertEqual(list(words), sorted(expected))
            if len(expected) <= 20:
                all_of = {}
                for word in words_up_to(one.letters, 5):
                    all_of.setdefault(plain_map(one, other, word), word)
                self.assertTrue(all(expected[made] == word for made, word in all_of.items()))
        self.assertGreater(many, 30)

    def test_sixty_four_maps_and_one_more(self):
        self.assertEqual(MAX_READINGS, 64)
        for many in range(2, 11):
            self.assertEqual(len(maps_of_words(of_words("a", ("aaaaaa",)), circle(many))), 7 + many)
        empty = Machine("a", ((0,),))
        for one, other in [(circle(8), tail(56)), (circle(16), tail(48)), (tail(63), empty)]:
            self.assertEqual(len(maps_of_words(one, other)), 64)
            self.assertEqual(list(first_words_of_maps(one, other).values()).count("a" * 63), 1)
        for one, other in [(circle(8), tail(57)), (tail(49), circle(16)), (tail(64), empty)]:
            check_error(self, maps_of_words, (one, other), TooMany, "limit", 64)
            check_error(self, first_words_of_maps, (one, other), TooMany, "limit", 64)

    def test_which_values_are_maps(self):
        some = random.Random(61)
        for one, other in some_pairs(12, 603, states=(1, 2, 3)):
            for made in [random_map(some, one, other) for _ in range(20)]:
                self.assertIs(is_map(one, other, made), True)
                near = [made[::-1], made + ((),), made[:1], list(made), (list(made[0]), made[1]), (made[0], None)]
                near += [(made[0] + (0,), made[1]), (made[0][1:], made[1]), (made[0], made[1] + (0,)), (made[0], ())]
                near += [(made[0], made[1][:-1] + (value,)) for value in (-1, len(other), True, None, "0", (0,))]
                near += [((value,) + made[0][1:], made[1]) for value in (-1, len(one), False, None, "0", [0])]
                for value in near:
                    self.assertIs(is_map(one, other, value), is_plain_map(one, other, value), repr(value))
            for value in VALUES:
                for made in (value, (value, value), ((0,) * len(one), value), (value, (0,) * len(other))):
                    self.assertIs(is_map(one, other, made), is_plain_map(one, other, made), repr(made))

    def test_one_behind_the_other(self):
        some = random.Random(62)
        for one, other in some_pairs(30, 604):
            for _ in range(10):
                left, right = ("".join(some.choices(one.letters, k=some.randint(0, 5))) for _ in range(2))
                made = behind_map(one, other, plain_map(one, other, left), plain_map(one, other, right))
                self.assertEqual(made, plain_map(one, other, left + right))
                maps = [random_map(some, one, other) for _ in range(2)]
                self.assertEqual(behind_map(one, other, *maps), plain_behind(*maps))

    def test_rounds(self):
        some = random.Random(63)
        seen = set()
        for one, other in some_pairs(60, 605, states=(1, 2, 3, 4)):
            made = random_map(some, one, other)
            powers = [made]
            while len(powers) < 40:
                powers.append(plain_behind(powers[-1], made))
            number = next(at for at in range(1, 20) if powers[at - 1] in powers[at:])
            ring = next(size for size in range(1, 20) if powers[number - 1] == powers[number - 1 + size])
            self.assertEqual(map_rounds(one, other, made), (number, ring))
            seen.add((number, ring))
        self.assertGreater(len(seen), 5)
        turn = ((1, 2, 3, 0), (1, 2, 0))
        four, three = Machine("a", ((0,),) * 4), Machine("a", ((0,),) * 3)
        self.assertEqual(map_rounds(four, three, turn), (1, 12))
        self.assertEqual(map_rounds(four, three, ((0, 0, 1, 2), (0, 1, 2))), (3, 1))

    def test_hits(self):
        for one, other in some_pairs(30, 606):
            for word in words_up_to(one.letters, 3):
                made = plain_map(one, other, word)
                self.assertEqual(map_hits(one, other, made), (word in one, word in other))
            self.assertEqual(set(map(type, map_hits(one, other, made))), {bool})

    def test_time(self):
        machines = some_machines("abc", 40, 607, states=(4,))
        begin = time.perf_counter()
        for one, other in itertools.pairwise(machines):
            try:
                maps_of_words(one, other)
            except TooMany as found:
                self.assertEqual(found.limit, 64)
        self.assertLess(time.perf_counter() - begin, 10)


class WrongArguments(unittest.TestCase):
    def test_wrong_arguments(self):
        one, other = Argument(EVEN, is_machine, InvalidMachine), Argument(OPENS, is_machine, InvalidMachine)
        word = Argument("ab", is_plain_word, InvalidWord)
        good = plain_map(EVEN, OPENS, "a")
        made = Argument(good, lambda value: is_plain_map(EVEN, OPENS, value), InvalidOperation)
        check_arguments(self, map_of, [one, other, word])
        for call in (maps_of_words, first_words_of_maps, lambda a, b: is_map(a, b, None)):
            check_arguments(self, call, [one, other])
        check_arguments(self, behind_map, [one, other, made, made])
        check_arguments(self, map_rounds, [one, other, made])
        check_arguments(self, map_hits, [one, other, made])

    def test_errors_in_their_order(self):
        short = Machine("a", ((0,), (0,)), (0,))
        made = ((0, 1), (0, 1))
        for call, rest in ((map_of, ("",)), (is_map, (made,)), (maps_of_words, ()), (first_words_of_maps, ()),
                           (behind_map, (made, made)), (map_rounds, (made,)), (map_hits, (made,))):
            check_error(self, call, (EVEN, short, *rest), InvalidOperation)
        check_error(self, map_of, (EVEN, short, "A"), InvalidWord)
        check_error(self, map_of, (EVEN, ODD, "c"), InvalidOperation)
        check_error(self, map_of, (EVEN, ODD, "abz"), InvalidOperation)


if __name__ == "__main__":
    unittest.main()
