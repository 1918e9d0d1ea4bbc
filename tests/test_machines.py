"""Machines: held against all words of up to five or six letters, at their edges, and with wrong values."""

import unittest

from watchkinds.base import machines
from watchkinds.base.joined import chained, mirrored, of_words
from watchkinds.base.machines import MAX_STATES, MAX_TIMES, Machine
from watchkinds.errors import InvalidMachine, InvalidNumber, InvalidOperation, InvalidWord

from plain import (EVEN, NONE, ODD, SOME, VALUES, Argument, all_machines, check_arguments, check_error, check_least,
                   is_machine, is_plain_letters, is_plain_number, is_plain_word, language, led_to, number_from,
                   some_machines, words_up_to)


def is_plain_table(value, width):
    if type(value) is not tuple or not 1 <= len(value) <= 4:
        return False
    return all(type(row) is tuple and len(row) == width
               and all(is_plain_number(state, 0, len(value) - 1) for state in row) for row in value)


def is_plain_ends(value, states):
    if type(value) is not tuple or not all(is_plain_number(state, 0, states - 1) for state in value):
        return False
    return list(value) == sorted(set(value))


MANY = (list(all_machines("a", 1)) + list(all_machines("b", 2)) + list(all_machines("a", 3))
        + list(all_machines("ab", 2)) + some_machines("ab", 120, 11) + some_machines("abc", 80, 12)
        + some_machines("xz", 20, 13) + some_machines("q", 40, 14))


class Machines(unittest.TestCase):
    def test_constants(self):
        self.assertEqual((MAX_STATES, MAX_TIMES), (4, 10 ** 11))

    def test_what_it_keeps(self):
        machine = Machine("ac", ((1, 2), (3, 0), (2, 2), (0, 1)), (0, 3))
        self.assertEqual((machine.letters, machine.table, machine.ends),
                         ("ac", ((1, 2), (3, 0), (2, 2), (0, 1)), (0, 3)))
        self.assertEqual(Machine("a", ((0,),)).ends, ())
        self.assertEqual(Machine("a", ((0,),), ends=(0,)).ends, (0,))
        for name in ("letters", "table", "ends", "is_empty", "is_full"):
            with self.assertRaises(AttributeError):
                setattr(machine, name, ())

    def test_all_at_once_by_plain_reading(self):
        for machine in MANY:
            most = 3 if len(machine.letters) == 3 else 5
            words = words_up_to(machine.letters, most)
            has = language(machine, most)
            self.assertEqual([word for word in words if word in machine], has)
            self.assertEqual(list(machine.words(most)), has)
            self.assertEqual([machine.after(word) for word in words], [led_to(machine, word) for word in words])
            self.assertEqual(machine.first_word(), has[0] if has else None)
            self.assertIs(machine.is_empty, has == [])
            self.assertIs(machine.is_full, has == words)
            least, other = machine.least(), ~machine
            check_least(self, least)
            check_least(self, other)
            self.assertEqual(language(least, most), has)
            self.assertEqual(language(other, most), [word for word in words if word not in has])
            self.assertEqual(str(machine), f"machine of {len(machine.table)} states, {len(machine.ends)} ends")
            self.assertEqual(len(machine), len(machine.table))

    def test_two_machines(self):
        for letters, seed in (("a", 21), ("ab", 22), ("abc", 23)):
            drawn = some_machines(letters, 24, seed)
            most = 5 if len(letters) < 3 else 4
            for one in drawn:
                left = set(language(one, most))
                for other in drawn:
                    right = set(language(other, most))
                    for made, has in ((one | other, left | right), (one & other, left & right),
                                      (one - other, left - right)):
                        self.assertEqual(set(language(made, most)), has)
                        check_least(self, made)

    def test_more_states_than_can_be_passed(self):
        four = Machine("ab", ((1, 0), (2, 1), (3, 2), (0, 3)), (0,))
        five = Machine("ab", ((0, 1), (1, 2), (2, 0)), (0,))
        both = four & five
        self.assertEqual(len(both), 12)
        self.assertEqual(len(both.least()), 12)
        self.assertEqual(both.after("ab", times=10 ** 11), led_to(both, "ab" * (10 ** 11 % 12)))
        self.assertEqual(len(both & both), 12)
        self.assertEqual(len(~both), 12)
        self.assertEqual(both.first_word(), "")
        self.assertEqual((both - of_words("ab", ("",))).first_word(), "bbb")

    def test_same_words_and_least_machines(self):
        """[2.1], for all machines of two letters with two states."""
        drawn = list(all_machines("ab", 2))
        for one in drawn:
            for other in drawn:
                self.assertIs(one.least() == other.least(), language(one, 4) == language(other, 4))

    def test_times(self):
        for machine in some_machines("ab", 60, 31):
            for word in ("", "a", "b", "ab", "abb"):
                for times in range(12):
                    self.assertEqual(machine.after(word, times=times), led_to(machine, word * times))
                for times in (10 ** 11, 10 ** 11 - 1, 123456789):
                    # 12 is a multiple of the length of each ring of at most four states.
                    near = 24 + times % 12
                    self.assertEqual(machine.after(word, times=times), led_to(machine, word * near))
        self.assertEqual(ODD.after("a" * 400, times=10 ** 11), 0)
        self.assertEqual(ODD.after("a", times=0), 0)

    def test_states_to_which_no_word_leads(self):
        machine = Machine("ab", ((0, 0), (2, 1), (3, 1), (1, 1)), (1, 2))
        self.assertTrue(machine.is_empty)
        self.assertFalse(machine.is_full)
        self.assertIsNone(machine.first_word())
        self.assertEqual(machine.least(), Machine("ab", ((0, 0),)))
        self.assertEqual(~machine, Machine("ab", ((0, 0),), (0,)))
        self.assertTrue(Machine("ab", ((0, 0), (1, 1)), (0,)).is_full)

    def test_any_value_in_a_machine_and_beside_it(self):
        full = Machine("ab", ((0, 0),), (0,))
        for value in VALUES:
            has = is_plain_word(value) and set(value) <= set("ab")
            self.assertIs(value in full, has, repr(value))
            same = is_machine(value) and (value.letters, value.table, value.ends) == ("ab", EVEN.table, EVEN.ends)
            self.assertIs(EVEN == value, same, repr(value))
            self.assertIs(EVEN != value, not same, repr(value))
        self.assertEqual(EVEN, Machine("ab", ((1, 0), (0, 1)), (0,)))
        self.assertNotEqual(EVEN, Machine("ac", ((1, 0), (0, 1)), (0,)))
        self.assertNotEqual(Machine("ab", ((0, 0), (0, 0)), (0,)), Machine("ab", ((0, 0),), (0,)))

    def test_machines_cannot_be_iterated(self):
        for call in (iter, list, tuple, lambda machine: [part for part in machine], lambda machine: max(machine)):
            with self.assertRaises(TypeError):
                call(EVEN)

    def test_nothing_changes(self):
        one, other = Machine("ab", ((1, 0), (0, 1)), (0,)), SOME
        before = (one.letters, one.table, one.ends)
        [one | other, one & other, one - other, ~one, one.least(), list(one.words(3)), one.after("ab", times=9)]
        self.assertEqual((one.letters, one.table, one.ends), before)
        self.assertIs(type(one.table), tuple)
        self.assertIs(type((one | other).table), tuple)
        self.assertIs(type((one | other).table[0]), tuple)
        self.assertIs(type((one | other).ends), tuple)

    def test_the_class_itself_has_its_methods(self):
        for name in ("letters", "table", "ends", "is_empty", "is_full", "after", "words", "first_word", "least",
                     "__init__", "__invert__", "__or__", "__and__", "__sub__", "__contains__", "__len__", "__eq__",
                     "__str__"):
            self.assertIn(name, vars(Machine))
        for made in (~EVEN, EVEN | SOME, EVEN.least(), mirrored(EVEN)):
            self.assertIs(type(made), Machine)
        self.assertEqual(machines.Machine.__module__, "watchkinds.base.machines")


class WrongMachines(unittest.TestCase):
    def test_wrong_arguments(self):
        letters = Argument("ab", lambda value: is_plain_letters(value) and len(value) == 2, InvalidMachine)
        table = Argument(((0, 1), (1, 0)), lambda value: is_plain_table(value, 2), InvalidMachine)
        ends = Argument((1,), lambda value: is_plain_ends(value, 2), InvalidMachine)
        check_arguments(self, Machine, [letters, table, ends])

    def test_wrong_machines(self):
        row = (0, 0)
        wrong = [
            ("ab", (row, row, row, row, row), ()), ("ab", (), ()), ("ab", [row], ()), ("ab", ([0, 0],), ()),
            ("ab", ((0, 1),), ()), ("ab", ((0, -1),), ()), ("ab", ((0, False),), ()), ("ab", ((0, None),), ()),
            ("ab", ((0,), (1,)), ()), ("a", (row,), ()), ("abc", (row,), ()), ("ab", (row, (0, 2)), ()),
            ("ab", (row, (0,)), ()), ("ab", (row,), (1,)), ("ab", (row, row), (1, 0)), ("ab", (row, row), (0, 0)),
            ("ab", (row, row), [0]), ("ab", (row, row), (0, True)), ("ab", (row, row), (-1,)), ("ab", (row,), None),
            ("ab", (row, row), ("0",)), ("ab", (row,), ((0,),)), ("ba", (row,), ()), ("aa", (row,), ()),
            ("abcd", ((0, 0, 0, 0),), ()), ("", ((),), ()), ("ab", "ab", ()), ("ab", ("00",), ()), ("ab", EVEN, ()),
        ]
        for values in wrong:
            check_error(self, Machine, values, InvalidMachine)
        self.assertEqual(len(Machine("ab", (row,) * 4, (0, 1, 2, 3))), 4)
        self.assertEqual(len(Machine("z", ((0,),))), 1)

    def test_wrong_words_and_numbers(self):
        word = Argument("ab", is_plain_word, InvalidWord)
        times = Argument(2, number_from(0, 10 ** 11), InvalidNumber, "value")
        most = Argument(2, number_from(0, 7), InvalidNumber, "value")
        check_arguments(self, lambda given, many: EVEN.after(given, times=many), [word, times])
        check_arguments(self, lambda given: EVEN.after(given), [word])
        check_arguments(self, lambda given: next(EVEN.words(given)), [most])
        for given in ("c", "abz"):
            check_error(self, EVEN.after, (given,), InvalidOperation)
            check_error(self, lambda value: EVEN.after(value, times=0), (given,), InvalidOperation)
            check_error(self, lambda value: EVEN.after(value, times=-1), (given,), InvalidNumber, "value", -1)

    def test_errors_wait_for_the_first_value(self):
        waiting = EVEN.words(8)
        with self.assertRaises(InvalidNumber) as caught:
            next(waiting)
        self.assertEqual(caught.exception.value, 8)
        self.assertEqual(len(list(Machine("a", ((0,),), (0,)).words(7))), 8)
        self.assertEqual(list(Machine("a", ((0,),)).words(7)), [])

    def test_wrong_operands(self):
        other = Argument(EVEN, is_machine, InvalidMachine)
        for call in (lambda value: EVEN | value, lambda value: EVEN & value, lambda value: EVEN - value):
            check_arguments(self, call, [other])
            for letters in ("a", "b", "bc", "abc"):
                check_error(self, call, (Machine(letters, ((0,) * len(letters),)),), InvalidOperation)
        self.assertEqual(len(chained(NONE, SOME)), 2)


if __name__ == "__main__":
    unittest.main()
