"""Machines joined: held against all words of up to five or six letters, at their edges, and with wrong values."""

import itertools
import unittest

from watchkinds.base import joined
from watchkinds.base.joined import (are_same, behind, chained, common_word, first_difference, is_order_free, knots,
                                    mirrored, of_words, renamed, repeated, state_words)
from watchkinds.base.machines import Machine
from watchkinds.errors import InvalidMachine, InvalidOperation, InvalidWord

from plain import (EVEN, NONE, ODD, SOME, VALUES, Argument, all_machines, check_arguments, check_error, check_least,
                   is_machine, is_plain_letters, is_plain_word, language, led_to, some_machines, words_up_to)

MACHINE = Argument(EVEN, is_machine, InvalidMachine)
WORD = Argument("ab", is_plain_word, InvalidWord)
MANY = (list(all_machines("a", 1)) + list(all_machines("a", 2)) + list(all_machines("ab", 2))
        + some_machines("ab", 60, 41) + some_machines("abc", 24, 42) + some_machines("a", 20, 43))


def most_for(machine):
    return 4 if len(machine.letters) == 3 else 6


def plain_chain(left, right, words):
    """The words that are cut somewhere into a word of the one and a word of the other set."""
    return [word for word in words
            if any(word[:at] in left and word[at:] in right for at in range(len(word) + 1))]


def plain_repeats(has, words):
    """The words that are made of words of a set, by the length of what is made."""
    made = {""}
    for word in words:
        if any(word[:at] in made and word[at:] in has for at in range(len(word))):
            made.add(word)
    return [word for word in words if word in made]


class OneMachine(unittest.TestCase):
    def test_of_words(self):
        for letters in ("a", "ab", "bz"):
            words = words_up_to(letters, 2)
            for many in range(4):
                for chosen in itertools.combinations(words, many):
                    made = of_words(letters, chosen)
                    check_least(self, made)
                    self.assertEqual(language(made, 4), list(chosen))
                    self.assertEqual(made, of_words(letters, chosen[::-1] + chosen[:1]))
        long = ("abcabc", "aaaaaa", "cba", "", "bbbbbb", "c")
        made = of_words("abc", long)
        check_least(self, made)
        self.assertEqual(sorted(language(made, 7)), sorted(long))
        self.assertEqual(of_words("ab", ()), Machine("ab", ((0, 0),)))
        self.assertEqual(list(of_words("ab", ("a",) * 6).words(3)), ["a"])

    def test_repeated_and_mirrored(self):
        for machine in MANY:
            words = words_up_to(machine.letters, most_for(machine))
            has = set(language(machine, most_for(machine)))
            again = repeated(machine)
            check_least(self, again)
            self.assertEqual(language(again, most_for(machine)), plain_repeats(has, words))
            back = mirrored(machine)
            check_least(self, back)
            self.assertEqual(language(back, most_for(machine)), [word for word in words if word[::-1] in has])
            self.assertEqual(mirrored(back), machine.least())
            self.assertEqual(repeated(again), again)

    def test_behind(self):
        for machine in MANY:
            words = words_up_to(machine.letters, 4)
            for front in ("", "a", "aa", "aaa") + (("ab", "bba") if "b" in machine.letters else ()):
                made = behind(machine, front)
                check_least(self, made)
                self.assertEqual(language(made, 4), [word for word in words
                                                     if led_to(machine, front + word) in machine.ends])
        self.assertEqual(behind(EVEN, "a" * 399 + "b"), ODD.least())

    def test_renamed(self):
        for machine in some_machines("ab", 40, 44) + some_machines("abc", 20, 45) + some_machines("c", 9, 46):
            for news in itertools.islice(itertools.permutations("abcz", len(machine.letters)), 24):
                change = dict(zip(machine.letters, news))
                made = renamed(machine, change)
                check_least(self, made)
                self.assertEqual(made.letters, "".join(sorted(news)))
                turned = {"".join(change[letter] for letter in word) for word in language(machine, 3)}
                self.assertEqual(set(language(made, 3)), turned)
        change = {"b": "a", "a": "b"}
        renamed(EVEN, change)
        self.assertEqual(list(change.items()), [("b", "a"), ("a", "b")])

    def test_state_words(self):
        for machine in MANY:
            firsts = {}
            for word in words_up_to(machine.letters, 4):
                firsts.setdefault(led_to(machine, word), word)
            found = state_words(machine)
            self.assertEqual(list(found.items()), sorted(firsts.items()))
        found = state_words(EVEN)
        found[0] = "b"
        self.assertEqual(state_words(EVEN), {0: "", 1: "a"})

    def test_knots(self):
        for machine in MANY + [Machine("ab", ((2, 2), (3, 0), (0, 2), (1, 1)))]:
            states = range(len(machine.table))
            words = words_up_to(machine.letters, 3)
            leads = {(one, led_to(machine, word, one)) for one in states for word in words}
            found = {tuple(other for other in states if (one, other) in leads and (other, one) in leads)
                     for one in states}
            self.assertEqual(knots(machine), tuple(sorted(found)))

    def test_is_order_free(self):
        for machine in MANY:
            most = most_for(machine)
            has = set(language(machine, most))
            free = all("".join(turned) in has for word in has for turned in itertools.permutations(word))
            self.assertIs(is_order_free(machine), free)
        self.assertIs(is_order_free(Machine("ab", ((0, 0), (2, 1), (2, 2)), (2,))), True)

    def test_longer_machines(self):
        words = of_words("ab", ("aabbab", "bbbbbb", "ababab", "baabba"))
        again = repeated(words)
        check_least(self, again)
        self.assertIn("aabbabbbbbbb", again)
        self.assertNotIn("aabbabbbbbb", again)
        self.assertEqual(mirrored(mirrored(again)), again)
        self.assertEqual(len(knots(again)[0]), len(again) - 1)
        self.assertEqual(len(state_words(again)), len(again))


class TwoMachines(unittest.TestCase):
    def drawn(self):
        for letters, seed in (("a", 51), ("ab", 52), ("abc", 53)):
            machines = some_machines(letters, 16, seed)
            for one in machines:
                for other in machines:
                    yield one, other

    def test_chained(self):
        for one, other in self.drawn():
            most = 4 if len(one.letters) == 3 else 5
            words = words_up_to(one.letters, most)
            made = chained(one, other)
            check_least(self, made)
            self.assertEqual(language(made, most),
                             plain_chain(set(language(one, most)), set(language(other, most)), words))

    def test_common_words_and_differences(self):
        for one, other in self.drawn():
            # Two machines with at most four states differ, or meet, within sixteen pairs of states.
            most = 5 if len(one.letters) == 3 else 8
            words = words_up_to(one.letters, most)
            left = [led_to(one, word) in one.ends for word in words]
            right = [led_to(other, word) in other.ends for word in words]
            both = [word for word, has, too in zip(words, left, right) if has and too]
            just_one = [word for word, has, too in zip(words, left, right) if has != too]
            common, apart = common_word(one, other), first_difference(one, other)
            self.assertEqual(common, both[0] if both else common if common and len(common) > most else None)
            self.assertEqual(apart, just_one[0] if just_one else apart if apart and len(apart) > most else None)
            self.assertIs(are_same(one, other), apart is None)
            self.assertIs(are_same(one, other), one.least() == other.least())
            self.assertIs(common is None, (one & other).is_empty)
        late = Machine("a", ((1,), (2,), (3,), (0,)), (3,))
        soon = Machine("a", ((1,), (2,), (0,)), (2,))
        self.assertEqual(common_word(late, soon), "a" * 11)
        self.assertEqual(first_difference(NONE, SOME), "")
        self.assertIsNone(common_word(NONE, SOME))


class WrongJoined(unittest.TestCase):
    def test_wrong_arguments(self):
        for call in (repeated, mirrored, state_words, knots, is_order_free):
            check_arguments(self, call, [MACHINE])
        for call in (chained, common_word, first_difference, are_same):
            check_arguments(self, call, [MACHINE, MACHINE])
            for letters in ("a", "bc", "abc"):
                check_error(self, call, (EVEN, Machine(letters, ((0,) * len(letters),))), InvalidOperation)
        check_arguments(self, behind, [MACHINE, WORD])
        check_error(self, behind, (EVEN, "abc"), InvalidOperation)
        letters = Argument("ab", is_plain_letters, InvalidOperation)
        words = Argument(("a", "ab"), lambda value: type(value) is tuple and all(
            is_plain_word(word) and set(word) <= set("ab") and len(word) <= 6 for word in value), InvalidOperation)
        check_arguments(self, of_words, [letters, words])
        change = Argument({"a": "b", "b": "a"}, lambda value: False, InvalidOperation)
        check_arguments(self, renamed, [MACHINE, change])

    def test_wrong_words(self):
        for words in (("a",) * 7, ("aaaaaaa",), ("c",), ["a"], ("A",), ("a\n",), (None,), ("a", ("b",)), "a", {"a": 1}):
            check_error(self, of_words, ("ab", words), InvalidOperation)
        self.assertEqual(list(of_words("a", ("aaaaaa",)).words(7)), ["aaaaaa"])

    def test_wrong_changes(self):
        wrong = [{}, {"a": "b"}, {"a": "b", "b": "b"}, {"a": "b", "b": "a", "c": "d"}, {"a": "b", "c": "a"},
                 {"a": "B", "b": "a"}, {"a": "bb", "b": "a"}, {"a": "", "b": "a"}, {"a": 1, "b": "a"},
                 {"a": ["b"], "b": "a"}, {"a": None, "b": "a"}, {"a": "\n", "b": "a"}, {0: "a", 1: "b"},
                 [("a", "b"), ("b", "a")], {"a": "b", "b": "a", None: "c"}, {"ab": "a", "b": "b"}]
        for change in wrong + [value for value in VALUES if type(value) is dict]:
            check_error(self, renamed, (EVEN, change), InvalidOperation)
        self.assertEqual(renamed(EVEN, {"a": "a", "b": "b"}), EVEN)

    def test_defined_in_the_module(self):
        for name in ("of_words", "chained", "repeated", "mirrored", "behind", "renamed", "common_word",
                     "first_difference", "are_same", "state_words", "knots", "is_order_free"):
            self.assertEqual(getattr(joined, name).__module__, "watchkinds.base.joined")


if __name__ == "__main__":
    unittest.main()
