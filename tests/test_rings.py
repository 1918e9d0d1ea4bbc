"""Counts and rings: met states, simple rings, alike words, counts blurs and words from them, by plain counting."""

import itertools
import math
import random
import unittest

from plain import (EVEN, NONE, ODD, OPENS, SOME, TWELVE, VALUES, Argument, check_arguments, check_error, is_machine,
                   is_plain_letters, is_plain_number, is_plain_word, led_to, number_from, some_machines, words_up_to)
from watchkinds.base.joined import chained, common_word, of_words, repeated
from watchkinds.base.machines import Machine
from watchkinds.boxes.boxes import Box
from watchkinds.counts import rings
from watchkinds.counts.finding import counts_blur
from watchkinds.counts.rings import (COUNT_SORTS, MAX_LENGTH, MAX_NUMBER, counts_words, is_alike, is_counts_blur,
                                     is_ring, met, side_sum, simple_rings)
from watchkinds.errors import InvalidMachine, InvalidNumber, InvalidOperation, InvalidWord, TooMany

ALL = Machine("ab", ((0, 0),), (0,))


def is_over(letters, value):
    return is_plain_word(value) and set(value) <= set(letters)


def is_plain_ring(machine, state, value):
    return is_over(machine.letters, value) and value != "" and led_to(machine, value, state) == state


def are_plain_alike(letters, sort, number, one, other):
    """The words of [12.2]."""
    for letter in letters:
        left, right = one.count(letter), other.count(letter)
        rests = all(left % k == right % k for k in range(1, number + 1))
        often = left >= number and right >= number
        if not {"caps": left == right or often, "sums": rests, "clerks": left == right or (often and rests)}[sort]:
            return False
    return True


def plain_sum(machine, value):
    """The sum of a side, by the words of [12.3]; None if it is none."""
    if type(value) is not tuple or len(value) != 2 or type(value[1]) is not tuple:
        return None
    word, turns = value
    if not is_over(machine.letters, word) or led_to(machine, word) not in machine.ends:
        return None
    sums = [word.count(letter) for letter in machine.letters]
    for turn in turns:
        if type(turn) is not tuple or len(turn) != 3 or not is_plain_number(turn[0], 0, len(word)):
            return None
        if type(turn[2]) is not int or not is_plain_ring(machine, led_to(machine, word[:turn[0]]), turn[1]):
            return None
        for at, letter in enumerate(machine.letters):
            sums[at] += turn[2] * turn[1].count(letter)
    return tuple(sums)


def is_plain_blur(one, other, sort, value):
    """The words of [12.4]."""
    if type(value) is not tuple or not value or type(value[0]) is not str:
        return False
    if value[0] == "word" and len(value) == 2:
        return is_over(one.letters, value[1]) and value[1] in one and value[1] in other
    if value[0] != "counts" or len(value) != 4:
        return False
    large, sums = value[1], [plain_sum(one, value[2]), plain_sum(other, value[3])]
    if not is_over(one.letters, large) or list(large) != sorted(set(large)) or None in sums:
        return False
    free = [[turn for turn in side[1] if set(turn[1]) <= set(large)] for side in value[2:]]
    if any(turn[2] < 0 for side, frees in zip(value[2:], free) for turn in side[1] if turn not in frees):
        return False
    for letter, left, right in zip(one.letters, *sums):
        if left != right and (letter not in large or sort != "caps"):
            return False
        if sort == "sums" and letter not in large:
            return False
        if sort != "sums" and letter in large and not all(any(letter in turn[1] for turn in frees) for frees in free):
            return False
    return True


def some_pairs(many=60):
    """Pairs of machines of at most four states, and such that differ only by their ends."""
    found = [(NONE, SOME), (EVEN, ODD), (ALL, ALL), (OPENS, ~OPENS)]
    for letters, seed in (("a", 121), ("ab", 122), ("abc", 123)):
        machines = some_machines(letters, 2 * many, seed, states=(4, 3, 2, 4))
        found += list(zip(machines[::2], machines[1::2]))
        found += [(machine, ~machine) for machine in machines[::5]]
    return found


def joined_machine(some, letters, depth):
    """A machine of words, of words repeated, and of such one behind another or beside one another."""
    kind = some.choice(("words", "repeated", "chained", "either")) if depth else "words"
    if kind == "words":
        return of_words(letters, tuple("".join(some.choices(letters, k=some.randint(0, 3)))
                                       for _ in range(some.randint(1, 2))))
    if kind == "repeated":
        return repeated(joined_machine(some, letters, depth - 1))
    one, other = joined_machine(some, letters, depth - 1), joined_machine(some, letters, depth - 1)
    return chained(one, other) if kind == "chained" else one | other


def joined_pairs(many, seed):
    """Pairs of such machines of at most four states, without words in common."""
    some = random.Random(seed)
    found = []
    while len(found) < many:
        letters = some.choice(("a", "ab", "ab", "abc"))
        one, other = (joined_machine(some, letters, some.randint(1, 4)) for _ in range(2))
        pair = (one - other, other) if some.random() < 0.5 else (one, other - one)
        if max(len(machine) for machine in pair) <= 4 and not any(machine.is_empty for machine in pair):
            found.append(pair)
    return found


def looped_pairs(many, seed):
    """Pairs of machines of three states and one from which no letter leads back, without words in common."""
    some = random.Random(seed)
    found = []
    while len(found) < many:
        letters = some.choice(("ab", "abc", "abc"))
        pair = [Machine(letters, tuple(tuple(some.randrange(3) if some.random() < 0.55 else 3 for _ in letters)
                                       for _ in range(3)) + ((3,) * len(letters),), (some.randrange(3),))
                for _ in range(2)]
        if not any(machine.is_empty for machine in pair) and common_word(*pair) is None:
            found.append(tuple(pair))
    return found


def some_blurs(many=60):
    """Machines, sorts, and counts blurs of them that have sides."""
    found = []
    for one, other in some_pairs(many) + joined_pairs(2 * many, 129) + looped_pairs(many, 130):
        for sort in COUNT_SORTS:
            blur = counts_blur(one, other, sort)
            if blur is not None and blur[0] == "counts":
                found.append((one, other, sort, blur))
    return found


class Rings(unittest.TestCase):
    def test_constants(self):
        self.assertEqual((COUNT_SORTS, MAX_NUMBER, MAX_LENGTH), (("caps", "sums", "clerks"), 6, 100000))

    def test_met_states(self):
        for letters in ("a", "ab", "abc"):
            for machine in some_machines(letters, 20, 125):
                for word in words_up_to(letters, 4) + ["a" * 400]:
                    self.assertEqual(met(machine, word), tuple(sorted({led_to(machine, word[:size])
                                                                       for size in range(len(word) + 1)})))

    def test_simple_rings(self):
        for letters in ("a", "ab", "abc"):
            for machine in some_machines(letters, 80, 126):
                for state in range(len(machine)):
                    firsts = {}
                    for word in words_up_to(letters, len(machine)):
                        path = [led_to(machine, word[:size], state) for size in range(len(word) + 1)]
                        if word and path[-1] == state and len(set(path)) == len(word):
                            firsts.setdefault(tuple(map(word.count, letters)), word)
                    self.assertEqual(simple_rings(machine, state), tuple(firsts.values()), (machine.table, state))

    def test_simple_rings_of_more_states(self):
        machine = repeated(of_words("ab", ("aabab", "abb", "b")))
        self.assertGreater(len(machine), 5)
        for state in range(len(machine)):
            firsts = {}
            for word in words_up_to("ab", len(machine)):
                path = [led_to(machine, word[:size], state) for size in range(len(word) + 1)]
                if word and path[-1] == state and len(set(path)) == len(word):
                    firsts.setdefault(tuple(map(word.count, "ab")), word)
            self.assertEqual(simple_rings(machine, state), tuple(firsts.values()))

    def test_rings_are_made_of_simple_ones(self):
        for machine in some_machines("ab", 30, 127):
            for state in range(len(machine)):
                for word in words_up_to("ab", 6):
                    if is_plain_ring(machine, state, word):
                        states = {led_to(machine, word[:size], state) for size in range(len(word))}
                        parts = {tuple(map(ring.count, "ab")) for held in states
                                 for ring in simple_rings(machine, held)}
                        sums = {(0, 0)}
                        for _ in word:
                            sums |= {(one[0] + two[0], one[1] + two[1]) for one in sums for two in parts
                                     if one[0] + two[0] <= 6 and one[1] + two[1] <= 6}
                        self.assertIn(tuple(map(word.count, "ab")), sums)

    def test_what_is_a_ring(self):
        for letters in ("a", "ab"):
            for machine in some_machines(letters, 20, 128):
                for state in range(len(machine)):
                    for value in words_up_to(letters, 5) + VALUES + ["a" * 400, "a" * 399]:
                        self.assertIs(is_ring(machine, state, value), is_plain_ring(machine, state, value), repr(value))


class Alike(unittest.TestCase):
    def test_words_by_their_counts(self):
        sizes = list(range(9)) + [11, 12, 13, 24, 39, 40, 41, 60, 61, 100, 400]
        for sort in COUNT_SORTS:
            for number in (1, 2, 3, 4, 5, 6, 12, 39, 40):
                for one, other in itertools.product(sizes, repeat=2):
                    self.assertIs(is_alike("ab", sort, number, "a" * one, "a" * other),
                                  are_plain_alike("ab", sort, number, "a" * one, "a" * other), (sort, number, one))

    def test_greatest_number(self):
        ring = math.lcm(*range(1, 5))
        self.assertIs(is_alike("a", "sums", 4, "a" * ring, ""), True)
        self.assertIs(is_alike("a", "sums", 5, "a" * ring, ""), False)
        self.assertIs(is_alike("a", "sums", 40, "a" * 400, ""), False)
        self.assertIs(is_alike("a", "caps", 40, "a" * 400, "a" * 40), True)
        self.assertIs(is_alike("a", "caps", 40, "a" * 400, "a" * 39), False)
        self.assertIs(is_alike("a", "clerks", 40, "a" * 400, "a" * 40), False)
        self.assertIs(is_alike("ab", "clerks", 40, "ab" * 200, "ba" * 200), True)

    def test_against_boxes_with_such_numbers(self):
        words = words_up_to("ab", 4) + ["aaaaaaa", "aaaaaaab", "aaaaaaaaa", "abbbbbb"]
        for number in (1, 2, 3):
            boxes = {"caps": [Box.caps("ab", number)],
                     "sums": [Box.rests("ab", k) for k in range(1, number + 1)],
                     "clerks": [Box.clerk("ab", cap, k) for k in range(1, number + 1) for cap in range(number + 1)
                                if k * max(1, -(-cap // k)) <= number]}
            for sort, those in boxes.items():
                seen = {word: tuple(box(word) for box in those) for word in words}
                for one, other in itertools.product(words, repeat=2):
                    self.assertIs(is_alike("ab", sort, number, one, other), seen[one] == seen[other])


class Blurs(unittest.TestCase):
    def check(self, one, other, value, sorts=COUNT_SORTS):
        right = 0
        for sort in sorts:
            expected = is_plain_blur(one, other, sort, value)
            self.assertIs(is_counts_blur(one, other, sort, value), expected, (sort, value))
            right += expected
        return right

    def near(self, some, value):
        """Blurs with a letter, a ring, a number of times, a place or a side changed."""
        found = [value[:1] + (large,) + value[2:] for large in ("", "a", "b", "ab", "ba", "aa", "abc", None)]
        found += [value[:2] + (value[3], value[2]), value[:3], value + ((),), list(value), ("word",) + value[1:],
                  value[:2] + (value[2], value[2]), value[:2] + (value[3], value[3])]
        for which in (2, 3):
            word, turns = value[which]
            sides = [(word + "a", turns), (word[1:], turns), (word, turns + turns), (word, turns[1:]), (word, turns[:-1]),
                     (word, list(turns)), [word, turns], (word,), (word, turns, ()), (None, turns), (word, None)]
            for at, turn in enumerate(turns):
                changed = [turn[:2] + (turn[2] + more,) for more in (-5, -2, -1, 1, 2, 60, TWELVE, 10 ** 39)]
                changed += [turn[:2] + (other,) for other in (True, None, "1", -turn[2])]
                changed += [(place,) + turn[1:] for place in (turn[0] + 1, turn[0] - 1, len(word), len(word) + 1, False)]
                changed += [(turn[0], ring, turn[2]) for ring in ("", "a", "b", turn[1] * 2, turn[1] + "a", "z", None)]
                changed += [turn[:2], turn + (0,), list(turn), None]
                sides += [(word, turns[:at] + (other,) + turns[at + 1:]) for other in changed]
            found += [value[:which] + (side,) + value[which + 1:] for side in sides]
        return some.sample(found, min(len(found), 60))

    def test_blurs_and_such_near_them(self):
        some = random.Random(23)
        blurs = some_blurs(50)
        right = 0
        for one, other, sort, blur in blurs:
            self.assertIs(is_counts_blur(one, other, sort, blur), True)
            right += self.check(one, other, blur)
            for value in self.near(some, blur):
                right += self.check(one, other, value)
        self.assertGreater(right, 1000)
        self.assertEqual({sort for _, _, sort, _ in blurs}, set(COUNT_SORTS))

    def test_blurs_made_at_random(self):
        some = random.Random(24)
        right = 0
        for _ in range(3000):
            one, other = some.choice(((ALL, ALL), (NONE, SOME), (EVEN, EVEN), (EVEN, ~SOME), (SOME, SOME)))
            large = some.choice(("", "a", "b", "ab"))
            sides = []
            for machine in (one, other):
                word = some.choice([word for word in words_up_to("ab", 2) if word in machine])
                places = [(at, ring) for at in range(len(word) + 1)
                          for ring in simple_rings(machine, led_to(machine, word[:at]))]
                sides.append((word, tuple((*some.choice(places), some.randint(-2, 2))
                                          for _ in range(some.randint(0, 3)) if places)))
            right += self.check(one, other, ("counts", large) + tuple(sides))
        self.assertGreater(right, 100)

    def test_names_of_blurs(self):
        for name in ("word", "words", "counts", "blocks", "", None):
            self.check(ALL, ALL, (name, "ab"))
            self.check(ALL, ALL, (name, "", ("", ()), ("", ())))
            self.check(ALL, ALL, (name, "ab", ("", ()), ("", ())))

    def test_any_value_is_judged(self):
        good = ("counts", "ab", ("", ((0, "b", 1),)), ("a", ((1, "a", -1), (0, "b", 1))))
        for value in VALUES:
            made = [value, (value,), ("word", value), (value, "a")]
            made += [good[:at] + (value,) + good[at + 1:] for at in range(4)]
            made += [good[:3] + (side,) for side in ((value, good[3][1]), ("a", value), ("a", (value,)))]
            made += [good[:3] + (("a", ((1, "a", -1)[:at] + (value,) + (1, "a", -1)[at + 1:], (0, "b", 1))),)
                     for at in range(3)]
            for blur in made:
                self.check(NONE, SOME, blur)
            self.check(EVEN, SOME, ("word", value))
            self.check(ALL, ALL, (value, "a"))

    def test_sums_of_sides(self):
        some = random.Random(25)
        for one, other, _, blur in some_blurs(25):
            for value in [blur] + self.near(some, blur):
                if type(value) is tuple and len(value) == 4:
                    for machine, side in ((one, value[2]), (other, value[3]), (other, value[2])):
                        expected = plain_sum(machine, side)
                        if expected is None:
                            check_error(self, side_sum, (machine, side), InvalidOperation)
                        else:
                            self.assertEqual(side_sum(machine, side), expected)
        self.assertEqual(side_sum(ALL, ("ab", ((1, "abb", -3), (2, "b", 10 ** 11)))), (-2, 10 ** 11 - 5))


class Words(unittest.TestCase):
    def check_words(self, one, other, sort, blur, number):
        left, right = found = counts_words(one, other, sort, blur, number)
        self.assertIs(type(found), tuple)
        self.assertTrue(led_to(one, left) in one.ends and led_to(other, right) in other.ends)
        self.assertIs(are_plain_alike(one.letters, sort, number, left, right), True, (sort, number, blur))
        self.assertLessEqual(max(len(left), len(right)), 100000)

    def test_words_for_all_numbers(self):
        for one, other, sort, blur in some_blurs():
            for number in range(1, 7):
                self.check_words(one, other, sort, blur, number)
        for sort in COUNT_SORTS:
            self.assertEqual(counts_words(EVEN, SOME, sort, ("word", "baa"), 6), ("baa", "baa"))

    def test_words_with_times_of_all_kinds(self):
        blurs = [("sums", ("counts", "ab", ("", ((0, "a", -7), (0, "b", 3))), ("", ((0, "aab", 2), (0, "a", -11), (0, "b", 1))))),
                 ("clerks", ("counts", "b", ("a", ((1, "b", -10 ** 6),)), ("a", ((0, "bb", -500000),)))),
                 ("clerks", ("counts", "b", ("", ((0, "aab", 1), (0, "b", -5))), ("aa", ((0, "bb", -2),)))),
                 ("caps", ("counts", "b", ("", ((0, "ab", 2), (0, "b", 0))), ("aa", ((2, "b", 7), (1, "bbb", -TWELVE))))),
                 ("sums", ("counts", "ab", ("", ((0, "a", TWELVE),)), ("a", ((0, "a", TWELVE - 1),)))),
                 ("caps", ("counts", "", ("ab", ((1, "ba", 2),)), ("", ((0, "abab", 1), (0, "ba", 1)))))]
        for sort, blur in blurs:
            self.assertIs(is_plain_blur(ALL, ALL, sort, blur), True, blur)
            for number in range(1, 7):
                self.check_words(ALL, ALL, sort, blur, number)

    def test_as_many_letters_as_may_be(self):
        for sort in ("caps", "clerks"):
            for many in (100000, 99999):
                blur = ("counts", "", ("", ((0, "a", many),)), ("a", ((1, "a", many - 1),)))
                self.check_words(ALL, ALL, sort, blur, 6)
            for many in (100001, 10 ** 6, TWELVE):
                blur = ("counts", "", ("", ((0, "a", many),)), ("a", ((1, "a", many - 1),)))
                check_error(self, counts_words, (ALL, ALL, sort, blur, 1), TooMany, "limit", 100000)
        for sides in ((40000, "ab", "abb"), (40000, "abb", "ab")):
            blur = ("counts", "b", ("", ((0, sides[1], sides[0]), (0, "b", 0))),
                    ("", ((0, sides[2], sides[0]), (0, "b", 0))))
            check_error(self, counts_words, (ALL, ALL, "caps", blur, 1), TooMany, "limit", 100000)

    def test_errors_in_their_order(self):
        short = Machine("a", ((0,),))
        many = ("counts", "", ("", ((0, "a", TWELVE),)), ("", ((0, "a", TWELVE),)))
        check_error(self, counts_words, (ALL, short, "caps", None, 7), InvalidNumber, "value", 7)
        check_error(self, counts_words, (ALL, short, "caps", None, 6), InvalidOperation)
        check_error(self, counts_words, (ALL, Machine("a", ((0,),), (0,)), "caps", ("word", ""), 6), InvalidOperation)
        check_error(self, counts_words, (ALL, ALL, "caps", None, 0), InvalidNumber, "value", 0)
        check_error(self, counts_words, (ALL, ALL, "sums", many, 6), InvalidOperation)
        check_error(self, counts_words, (ALL, ALL, "caps", many, 6), TooMany, "limit", 100000)


class WrongRings(unittest.TestCase):
    def test_wrong_arguments(self):
        machine, other = Argument(NONE, is_machine, InvalidMachine), Argument(SOME, is_machine, InvalidMachine)
        sort = Argument("sums", lambda value: type(value) is str and value in COUNT_SORTS, InvalidOperation)
        state = Argument(1, lambda value: is_plain_number(value, 0, 1), InvalidNumber, "value")
        word = Argument("ab", is_plain_word, InvalidWord)
        letters = Argument("ab", is_plain_letters, InvalidOperation)
        blur = Argument(("counts", "ab", ("", ()), ("a", ((1, "a", -1),))), lambda value: True, InvalidOperation)
        check_arguments(self, met, [machine, word])
        check_arguments(self, simple_rings, [machine, state])
        check_arguments(self, lambda one, two: is_ring(one, two, None), [machine, state])
        check_arguments(self, is_alike, [letters, sort, Argument(3, number_from(1, 40), InvalidNumber, "value"), word, word])
        check_arguments(self, lambda one, two, three: is_counts_blur(one, two, three, None), [machine, other, sort])
        side = Argument(("", ()), lambda value: plain_sum(NONE, value) is not None, InvalidOperation)
        check_arguments(self, side_sum, [machine, side])
        number = Argument(3, number_from(1, 6), InvalidNumber, "value")
        check_arguments(self, lambda one, two, three, four: counts_words(one, two, three, blur.good, four),
                        [machine, other, sort, number])
        for wrong in VALUES:
            if not is_plain_blur(NONE, SOME, "sums", wrong):
                check_error(self, counts_words, (NONE, SOME, "sums", wrong, 3), InvalidOperation)

    def test_letters_that_are_not_there(self):
        check_error(self, met, (EVEN, "abc"), InvalidOperation)
        check_error(self, is_alike, ("ab", "caps", 1, "abc", ""), InvalidOperation)
        check_error(self, is_alike, ("ab", "caps", 1, "", "z"), InvalidOperation)
        check_error(self, is_alike, ("ab", "caps", 41, "c", ""), InvalidNumber, "value", 41)
        check_error(self, is_counts_blur, (EVEN, Machine("a", ((0,),)), "caps", None), InvalidOperation)

    def test_defined_in_the_module(self):
        for name in ("met", "simple_rings", "is_ring", "is_alike", "is_counts_blur", "side_sum", "counts_words"):
            self.assertEqual(getattr(rings, name).__module__, "watchkinds.counts.rings")


if __name__ == "__main__":
    unittest.main()
