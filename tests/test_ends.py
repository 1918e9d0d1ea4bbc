"""Last and first letters: blurs, numbers, words and papers, held against all words of up to some letters."""

import itertools
import random
import unittest

from plain import (CLOSES, EVEN, NONE, ODD, OPENS, SOME, VALUES, Argument, all_machines, check_arguments, check_error,
                   is_machine, is_plain_number, is_plain_word, language, led_to, number_from, some_machines,
                   words_up_to)
from watchkinds.base.joined import chained, of_words
from watchkinds.base.machines import Machine
from watchkinds.ends import ends
from watchkinds.ends.ends import (MAX_NUMBER, first_blur, first_number, first_paper, first_words, is_first_blur,
                                  is_first_paper, is_last_blur, is_last_paper, last_blur, last_number, last_paper,
                                  last_words)
from watchkinds.errors import InvalidMachine, InvalidNumber, InvalidOperation


def has(machine, word):
    return led_to(machine, word) in machine.ends


def is_plain_blur(one, other, value, sort):
    """The words of [9.1] and [9.2]."""
    if type(value) is not tuple or len(value) not in (2, 5) or not all(is_plain_word(word) for word in value[1:]):
        return False
    if not all(set(word) <= set(one.letters) for word in value[1:]):
        return False
    if len(value) == 2:
        return value[0] == "word" and has(one, value[1]) and has(other, value[1])
    if value[0] != {"last": "end", "first": "begin"}[sort]:
        return False
    if sort == "last":
        _, left, right, ring, on = value
        ways = (one, left, on), (other, right, on)
    else:
        _, way, ring, left, right = value
        ways = (one, way, left), (other, way, right)
    return ring != "" and all(led_to(machine, before) == led_to(machine, before + ring)
                              and has(machine, before + behind) for machine, before, behind in ways)


def plain_number(one, other, sort, letters):
    """The least number that suffices, by all words of at most so many letters, or None."""
    held = [language(machine, letters) for machine in (one, other)]
    if set(held[0]) & set(held[1]):
        return None
    # Whatever leads to a state, or from it to an end, need not have more letters than this.
    more = max(len(one), len(other)) - 1
    for number in range(letters - more + 1):
        ends_of = [{word[len(word) - number:] if sort == "last" else word[:number]
                    for word in words if number <= len(word) <= number + more} for words in held]
        if not ends_of[0] & ends_of[1]:
            return number
    return None


def plain_layers(one, other, sort):
    """For each number the pairs of states to which one word of so many letters leads, from where the sort begins."""
    reached = [set() for _ in range(2)]
    for machine, states in zip((one, other), reached):
        queue = [0]
        for state in queue:
            if state not in states:
                states.add(state)
                queue.extend(machine.table[state])
    pairs = set(itertools.product(*reached)) if sort == "last" else {(0, 0)}
    while True:
        yield tuple(sorted(pairs))
        pairs = {after for left, right in pairs for after in zip(one.table[left], other.table[right])}


def plain_pairs(one, other, sort, number):
    return next(itertools.islice(plain_layers(one, other, sort), number, None))


def small_pairs():
    """Pairs of small machines, of at most three states, with one letter of at most four."""
    some = random.Random(11)
    ones = [machine for states in (1, 2) for machine in all_machines("a", states)]
    twos = [machine for states in (1, 2) for machine in all_machines("ab", states)]
    found = [(one, other) for one in ones for other in ones]
    found += [(some.choice(twos), some.choice(twos)) for _ in range(60)]
    few = [of_words("a", ("a" * size,)) for size in range(3)]
    few += [~machine for machine in few]
    found += [(one, other) for one in few for other in few]
    for letters, many in (("a", 60), ("ab", 90), ("abc", 30)):
        machines = some_machines(letters, 2 * many, 91, states=(1, 2, 3) if letters != "abc" else (2, 1, 2))
        found += list(zip(machines[::2], machines[1::2]))
    found += [(machine, ~machine) for machine in some_machines("ab", 30, 92, states=(2, 3))]
    return found


SORTS = {"last": (last_blur, is_last_blur, last_number, last_words, last_paper, is_last_paper),
         "first": (first_blur, is_first_blur, first_number, first_words, first_paper, is_first_paper)}


class Blurs(unittest.TestCase):
    def test_just_one_is_there(self):
        for sort, (blur, is_blur, number, _, paper, is_paper) in SORTS.items():
            seen = set()
            for one, other in small_pairs():
                found, least = blur(one, other), number(one, other)
                self.assertIs(found is None, least is not None)
                letters = {"a": 12, "ab": 11, "abc": 6}[one.letters]
                self.assertEqual(least, plain_number(one, other, sort, letters), (sort, one.table, other.table))
                told = paper(one, other)
                self.assertIs(is_paper(one, other, told), True)
                if found is None:
                    self.assertLess(least, len(one) * len(other))
                    self.assertIsInstance(least, int)
                    self.assertEqual(told, ("number", least, plain_pairs(one, other, sort, least)))
                    seen.add(least)
                else:
                    self.assertIs(is_blur(one, other, found), True)
                    self.assertIs(is_plain_blur(one, other, found, sort), True)
                    self.assertEqual(told[0], "blur")
                    self.assertIs(is_blur(one, other, told[1]), True)
                    seen.add(found[0])
            self.assertTrue({0, 1, 2, 3, "word"} <= seen and len(seen) > 5, seen)

    def test_blurs_and_such_near_them(self):
        some = random.Random(12)
        for sort, (blur, is_blur, *_) in SORTS.items():
            for one, other in some.sample(small_pairs(), 120):
                words = words_up_to(one.letters, 2)
                form = "end" if sort == "last" else "begin"
                made = [("word", word) for word in words] + [("word", word, word) for word in words[:2]]
                made += [(form,) + tuple(some.choices(words, k=4)) for _ in range(60)]
                found = blur(one, other)
                if found is not None:
                    made += [found, list(found), found[:-1], found + ("",), (found,), ("x",) + found[1:]]
                    made += [found[:at] + (word,) + found[at + 1:] for at in range(1, len(found)) for word in words]
                    made += [{"end": ("begin",), "begin": ("end",), "word": ("end",)}[found[0]] + found[1:]]
                for value in made:
                    self.assertIs(is_blur(one, other, value), is_plain_blur(one, other, value, sort), (sort, value))

    def test_any_value_is_judged(self):
        for sort, (_, is_blur, _, _, _, is_paper) in SORTS.items():
            for one, other in ((EVEN, ODD), (EVEN, SOME), (CLOSES, ~CLOSES), (SOME, NONE)):
                for value in VALUES:
                    self.assertIs(is_blur(one, other, value), is_plain_blur(one, other, value, sort), repr(value))
                    for at in range(5):
                        made = ("end", "", "a", "b", "") if sort == "last" else ("begin", "", "b", "a", "")
                        made = made[:at] + (value,) + made[at + 1:]
                        self.assertIs(is_blur(one, other, made), is_plain_blur(one, other, made, sort), repr(made))
                    for made in (("word", value), (value, ""), ("blur", value)):
                        self.assertIs(is_blur(one, other, made), is_plain_blur(one, other, made, sort), repr(made))
                    self.assertIs(is_paper(one, other, ("blur", value)), is_plain_blur(one, other, value, sort))
                    good = {"last": last_blur, "first": first_blur}[sort](one, other)
                    self.assertIs(is_paper(one, other, (value, good)), False)
                    self.assertIs(is_paper(one, other, ("blur", good, value)), False)

    def test_sides(self):
        blur = ("end", "", "a", "b", "")
        self.assertIs(is_last_blur(EVEN, ODD, blur), True)
        self.assertIs(is_last_blur(ODD, EVEN, blur), False)
        self.assertIs(is_last_blur(ODD, EVEN, ("end", "a", "", "b", "")), True)
        self.assertIs(is_last_blur(EVEN, ODD, ("end", "", "a", "", "")), False)
        self.assertIs(is_first_blur(EVEN, ODD, ("begin", "", "b", "", "a")), True)
        self.assertIs(is_first_blur(EVEN, ODD, ("begin", "", "", "", "a")), False)
        self.assertIs(is_first_blur(EVEN, ODD, ("begin", "", "b", "a", "")), False)
        self.assertIs(is_first_blur(EVEN, ODD, ("end", "", "a", "b", "")), False)
        self.assertIs(is_first_blur(EVEN, ODD, ("begin", "a", "aa" * 200, "a" * 399, "b" * 400)), True)
        self.assertIs(is_last_blur(EVEN, ODD, ("end", "b" * 400, "a" * 399, "aa" * 200, "b" * 400)), True)


class Words(unittest.TestCase):
    def check_words(self, one, other, sort, blur, number):
        call = SORTS[sort][3]
        left, right = found = call(one, other, blur, number)
        self.assertIs(type(found), tuple)
        self.assertTrue(has(one, left) and has(other, right))
        self.assertLessEqual(max(len(left), len(right)), 100000)
        if left != right:
            self.assertGreaterEqual(min(len(left), len(right)), number)
            if sort == "last":
                self.assertEqual(left[len(left) - number:], right[len(right) - number:])
            else:
                self.assertEqual(left[:number], right[:number])

    def test_words_for_all_numbers(self):
        some = random.Random(13)
        for sort in SORTS:
            for one, other in some.sample(small_pairs(), 150):
                blur = SORTS[sort][0](one, other)
                if blur is not None:
                    for number in (0, 1, 2, 3, 5, 17, 60):
                        self.check_words(one, other, sort, blur, number)
            for number in range(61):
                blur = ("end", "", "a", "aab", "") if sort == "last" else ("begin", "a", "baa", "a", "")
                one, other = (Machine("ab", ((1, 0), (2, 1), (1, 2)), (0, 2)), Machine("ab", ((1, 0), (1, 1)), (1,)))
                if SORTS[sort][1](one, other, blur):
                    self.check_words(one, other, sort, blur, number)
                for wide in (("end", "a" * 400, "a" * 399, "b" * 400, "b" * 400),
                             ("begin", "b" * 400, "aa" * 200, "a" * 400, "a" * 399), ("end", "aa", "a", "baa", "b"),
                             ("begin", "aa", "b", "", "a")):
                    if wide[0] == ("end" if sort == "last" else "begin"):
                        self.check_words(EVEN, ODD, sort, wide, number)

    def test_what_is_returned_is_small(self):
        for letters in ("ab", "abc"):
            machines = some_machines(letters, 120, 93, states=(4, 4, 3))
            for one, other in zip(machines[::2], machines[1::2]):
                for sort, (blur, is_blur, number, words, paper, is_paper) in SORTS.items():
                    for left, right in ((one, other), (one, ~one), (one - other, other)):
                        told = paper(left, right)
                        self.assertIs(is_paper(left, right, told), True)
                        if told[0] == "blur":
                            self.assertLessEqual(max(map(len, told[1][1:])), 400)
                            self.check_words(left, right, sort, told[1], 60)


class Papers(unittest.TestCase):
    def is_plain_paper(self, one, other, sort, value):
        _, number, pairs = value
        if not is_plain_number(number, 0, 400) or repr(pairs) != repr(plain_pairs(one, other, sort, number)):
            return False
        live = [{state for state in range(len(machine)) if any(led_to(machine, word, state) in machine.ends
                                                               for word in words_up_to(machine.letters, 3))}
                for machine in (one, other)]
        wanted = live if sort == "first" else [one.ends, other.ends]
        if any(left in wanted[0] and right in wanted[1] for left, right in pairs):
            return False
        short = words_up_to(one.letters, min(number - 1, 9 if len(one.letters) < 3 else 6))
        return not any(has(one, word) and has(other, word) for word in short if len(word) < number)

    def test_papers_and_such_near_them(self):
        some = random.Random(14)
        for sort, (_, _, least, _, _, is_paper) in SORTS.items():
            for one, other in some.sample(small_pairs(), 90):
                told = least(one, other)
                for number in (0, 1, 2, 3, 4) if told is None else (told - 1, told, told + 1, told + 7, 400, 401):
                    pairs = plain_pairs(one, other, sort, max(number, 0))
                    spare = [pair for pair in itertools.product(range(3), repeat=2) if pair not in pairs]
                    near = [pairs, pairs[:-1], pairs[1:], pairs[::-1], list(pairs), pairs + pairs[-1:], (),
                            tuple(map(list, pairs)), tuple((left, right, 0) for left, right in pairs), None, number,
                            tuple((bool(left), right) for left, right in pairs)]
                    near += [tuple(sorted(pairs + (pair,))) for pair in spare]
                    for value in near:
                        made = ("number", number, value)
                        self.assertIs(is_paper(one, other, made), self.is_plain_paper(one, other, sort, made),
                                      (sort, one.table, one.ends, other.table, other.ends, made))
                    for made in (["number", number, pairs], ("number", number), ("number", number, pairs, 0),
                                 ("numbers", number, pairs), ("blur", number, pairs), (number, pairs)):
                        self.assertIs(is_paper(one, other, made), False)
                blur = {"last": last_blur, "first": first_blur}[sort](one, other)
                for form in ("blurs", "number", "word", "", None):
                    self.assertIs(is_paper(one, other, (form, blur)), False)

    def test_each_number_from_the_least_one_on(self):
        self.assertEqual(MAX_NUMBER, 400)
        chain = Machine("ab", ((1, 3), (2, 2), (3, 1), (3, 3)), (2,)), Machine("ab", ((2, 1), (2, 3), (3, 0), (3, 2)), (3,))
        for one, other in ((CLOSES, ~CLOSES), (OPENS, ~OPENS), chain, (NONE - NONE, EVEN)):
            for sort, (_, _, least, _, _, is_paper) in SORTS.items():
                told = least(one, other)
                for number, pairs in zip(range(401), plain_layers(one, other, sort)):
                    made = ("number", number, pairs)
                    self.assertIs(is_paper(one, other, made), told is not None and number >= told, (sort, number))
                made = ("number", 401, plain_pairs(one, other, sort, 401))
                self.assertIs(is_paper(one, other, made), False)

    def test_numbers_that_are_no_integers(self):
        pairs = plain_pairs(CLOSES, ~CLOSES, "last", 1)
        for value in VALUES:
            expected = type(value) is int and 1 <= value <= 400
            self.assertIs(is_last_paper(CLOSES, ~CLOSES, ("number", value, pairs)), expected, repr(value))
            self.assertIs(is_last_paper(CLOSES, ~CLOSES, ("number", 1, value)), value == pairs and expected, repr(value))
            if type(value) is not tuple:
                self.assertIs(is_last_paper(CLOSES, ~CLOSES, value), False)
                self.assertIs(is_first_paper(CLOSES, ~CLOSES, value), False)

    def test_machines_without_words_and_equal_ones(self):
        empty = NONE - NONE
        for sort, (blur, is_blur, number, _, paper, is_paper) in SORTS.items():
            for machine in (EVEN, OPENS, empty, ~empty):
                for one, other in ((machine, empty), (empty, machine)):
                    self.assertIsNone(blur(one, other))
                    self.assertEqual(number(one, other), 0)
                    self.assertIs(is_paper(one, other, ("number", 0, plain_pairs(one, other, sort, 0))), True)
                if machine.first_word() is not None:
                    self.assertIs(is_blur(machine, machine, ("word", machine.first_word())), True)
                    self.assertIsNone(number(machine, machine))
                    self.assertEqual(paper(machine, machine)[0], "blur")

    def test_common_words_alone(self):
        one, other = of_words("ab", ("ab", "b")), of_words("ab", ("ab", "a"))
        for sort, (blur, _, number, words, paper, is_paper) in SORTS.items():
            self.assertEqual((blur(one, other), number(one, other)), (("word", "ab"), None))
            self.assertEqual(words(one, other, ("word", "ab"), 60), ("ab", "ab"))
            for told in (0, 1, 2, 3, 4, 100):
                made = ("number", told, plain_pairs(one, other, sort, told))
                self.assertIs(is_paper(one, other, made), False)

    def test_great_machines(self):
        one = of_words("ab", ("aabbab", "ab"))
        other = of_words("ab", ("babbab", "bb"))
        self.assertEqual((len(one), len(other), last_number(one, other), first_number(one, other)), (8, 8, 6, 1))
        long = of_words("a", ("aaaaaa",))
        for _ in range(2):
            long = chained(long, of_words("a", ("aaaaaa",)))
        for other in (chained(long, of_words("a", ("a",))), of_words("a", ("a",)), ~long):
            for sort, (blur, is_blur, number, _, paper, is_paper) in SORTS.items():
                self.assertIs(is_paper(long, other, paper(long, other)), True)
                self.assertIs(blur(long, other) is None, number(long, other) is not None)
        self.assertEqual(last_number(long, chained(long, of_words("a", ("a",)))), 19)
        self.assertEqual(first_number(long, chained(long, of_words("a", ("a",)))), 19)
        self.assertEqual(last_number(long, of_words("a", ("a",))), 2)
        self.assertEqual((last_number(long, ~long), first_number(long, ~long)), (19, 19))


class WrongEnds(unittest.TestCase):
    def test_wrong_arguments(self):
        machine = Argument(EVEN, is_machine, InvalidMachine)
        over = Argument(ODD, lambda value: is_machine(value) and value.letters == "ab", InvalidOperation)
        number = Argument(3, number_from(0, 60), InvalidNumber, "value")
        for sort, (blur, is_blur, least, words, paper, is_paper) in SORTS.items():
            good = blur(EVEN, ODD)
            blurs = Argument(good, lambda value, sort=sort: is_plain_blur(EVEN, ODD, value, sort), InvalidOperation)
            for call in (blur, least, paper):
                check_arguments(self, call, [machine, Argument(ODD, is_machine, InvalidMachine)])
            for call in (is_blur, is_paper):
                check_arguments(self, lambda one, two, call=call: call(one, two, None),
                                [machine, Argument(ODD, is_machine, InvalidMachine)])
            check_arguments(self, words, [machine, Argument(ODD, is_machine, InvalidMachine), blurs, number])
            for call in (blur, least, paper):
                check_error(self, call, (EVEN, Machine("a", ((0,),))), InvalidOperation)
                self.assertIs(over.is_good(ODD), True)
            for call in (is_blur, is_paper):
                check_error(self, call, (Machine("abc", ((0, 0, 0),)), EVEN, None), InvalidOperation)
            check_error(self, words, (EVEN, Machine("a", ((0,),)), ("word", ""), -1), InvalidOperation)

    def test_defined_in_the_module(self):
        for calls in SORTS.values():
            for call in calls:
                self.assertIs(getattr(ends, call.__name__), call)
                self.assertEqual(call.__module__, "watchkinds.ends.ends")


if __name__ == "__main__":
    unittest.main()
