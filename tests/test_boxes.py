"""Boxes: held against a plain counting over all words of up to five or six letters, and with wrong values."""

import itertools
import unittest

from watchkinds.base.words import counts, first_letters, last_letters
from watchkinds.boxes import boxes
from watchkinds.boxes.boxes import MAX_MADE, MAX_PLACES, Box
from watchkinds.errors import InvalidBox, InvalidNumber, InvalidOperation, InvalidWord, TooMany

from plain import (LATCH, SWITCH, VALUES, Argument, all_boxes, check_arguments, check_error, check_least, is_box,
                   is_plain_letters, is_plain_number, is_plain_word, led_to, number_from, plain_pieces, some_boxes,
                   words_up_to)

MADE = ("window", "heads", "pieces", "caps", "rests", "clerk")
MANY = (all_boxes("a", 1) + all_boxes("a", 3) + all_boxes("ab", 2) + some_boxes("ab", 60, 61)
        + some_boxes("abc", 40, 62) + some_boxes("q", 20, 63))


def counted(number, cap, modulus):
    """What is told of a number: itself below the cap, otherwise its rest."""
    return number if number < cap else ("rest", number % modulus)


def ends_seen(word, size, cut):
    return ("whole", word) if len(word) < size else ("part", cut(word, size))


class ClassMethods(unittest.TestCase):
    def check_box(self, box, letters, most, told):
        """Two words lead to one place exactly if the same is told of them, and the box is lean."""
        firsts, groups = {}, {}
        for word in words_up_to(letters, most):
            place, key = led_to(box, word), told(word)
            self.assertEqual(firsts.setdefault(place, key), key, word)
            self.assertEqual(groups.setdefault(key, place), place, word)
        self.check_lean(box)

    def check_lean(self, box):
        order = [0]
        for place in order:
            order.extend(after for after in dict.fromkeys(box.table[place]) if after not in order)
        self.assertEqual(order, list(range(len(box.table))))
        self.assertEqual(box.lean(), box)

    def test_windows_and_heads(self):
        for letters in ("a", "by", "abc"):
            for size in range(5):
                most = 6 if len(letters) < 3 else 5
                window, heads = Box.window(letters, size), Box.heads(letters, size)
                self.check_box(window, letters, most, lambda word: ends_seen(word, size, last_letters))
                self.check_box(heads, letters, most, lambda word: ends_seen(word, size, first_letters))
                many = sum(len(letters) ** length for length in range(size + 1))
                self.assertEqual((len(window), len(heads)), (many, many))

    def test_pieces(self):
        for letters in ("a", "ab", "xyz"):
            for most in range(4 if len(letters) < 3 else 3):
                self.check_box(Box.pieces(letters, most), letters, 6 if len(letters) < 3 else 5,
                               lambda word: tuple(plain_pieces(word, most)))
        self.assertEqual([len(Box.pieces("ab", most)) for most in range(4)], [1, 4, 16, 68])
        self.assertEqual([len(Box.pieces("abc", most)) for most in range(3)], [1, 8, 152])

    def test_counts(self):
        for letters in ("a", "ab", "abc"):
            for cap in range(4):
                for modulus in range(1, 5):
                    if (cap + modulus) ** len(letters) <= 400:
                        self.check_box(Box.clerk(letters, cap, modulus), letters, 6 if len(letters) < 3 else 5,
                                       lambda word: tuple(counted(number, cap, modulus)
                                                          for number in counts(letters, word)))
                        self.assertEqual(len(Box.clerk(letters, cap, modulus)), (cap + modulus) ** len(letters))
                self.check_box(Box.caps(letters, cap), letters, 5,
                               lambda word: tuple(min(number, cap) for number in counts(letters, word)))
            for modulus in range(1, 6):
                self.check_box(Box.rests(letters, modulus), letters, 5,
                               lambda word: tuple(number % modulus for number in counts(letters, word)))

    def test_long_counts(self):
        for cap, modulus in itertools.product((0, 1, 5, 9), (1, 2, 11, 12)):
            box = Box.clerk("z", cap, modulus)
            self.check_box(box, "z", 45, lambda word: counted(len(word), cap, modulus))
            self.assertEqual(box.place("z", 0, times=10 ** 11), box("z" * (cap + (10 ** 11 - cap) % modulus)))
        self.assertEqual([len(Box.caps("a", 9)), len(Box.rests("a", 12))], [10, 12])

    def test_bounds_of_places(self):
        self.assertEqual(len(Box.clerk("ab", 8, 12)), 400)
        self.assertEqual(len(Box.window("abc", 4)), 121)
        self.assertEqual(len(Box.heads("abc", 4)), 121)
        self.assertEqual(len(Box.caps("abc", 6)), 343)
        self.assertEqual(len(Box.rests("abc", 7)), 343)
        for call in (lambda: Box.clerk("ab", 9, 12), lambda: Box.clerk("abc", 0, 8), lambda: Box.caps("abc", 7),
                     lambda: Box.rests("abc", 8), lambda: Box.pieces("abc", 3), lambda: Box.rests("abc", 12),
                     lambda: Box.clerk("abc", 9, 12)):
            check_error(self, call, (), TooMany, "limit", 400)

    def test_clerks_and_mirrors(self):
        """[4.1], the second and the third sentence."""
        for cap in range(6):
            for modulus in range(1, 6):
                self.assertEqual(Box.clerk("ab", cap, modulus), Box.caps("ab", cap) & Box.rests("ab", modulus))
        self.assertEqual(Box.clerk("abc", 2, 3), Box.caps("abc", 2) & Box.rests("abc", 3))
        for size in range(4):
            window, heads = Box.window("ab", size), Box.heads("ab", size)
            for one in words_up_to("ab", 4):
                for other in words_up_to("ab", 4):
                    self.assertIs(window(one) == window(other), heads(one[::-1]) == heads(other[::-1]))

    def test_wrong_arguments(self):
        letters = Argument("ab", is_plain_letters, InvalidOperation)

        def number(good, least, most):
            return Argument(good, number_from(least, most), InvalidNumber, "value")

        check_arguments(self, Box.window, [letters, number(1, 0, 4)])
        check_arguments(self, Box.heads, [letters, number(1, 0, 4)])
        check_arguments(self, Box.pieces, [letters, number(1, 0, 3)])
        check_arguments(self, Box.caps, [letters, number(1, 0, 9)])
        check_arguments(self, Box.rests, [letters, number(1, 1, 12)])
        check_arguments(self, Box.clerk, [letters, number(1, 0, 9), number(1, 1, 12)])
        for call, wrong in ((Box.window, 5), (Box.heads, 5), (Box.pieces, 4), (Box.caps, 10), (Box.rests, 13),
                            (Box.rests, 0)):
            check_error(self, call, ("abc", wrong), InvalidNumber, "value", wrong)
        check_error(self, Box.clerk, ("abc", 10, 0), InvalidNumber, "value", 10)
        check_error(self, Box.clerk, ("abc", 9, 13), InvalidNumber, "value", 13)


class Boxes(unittest.TestCase):
    def test_constants(self):
        self.assertEqual((MAX_PLACES, MAX_MADE), (6, 400))

    def test_what_it_keeps(self):
        box = Box("ac", ((1, 2), (3, 0), (2, 2), (0, 4), (5, 5), (0, 0)))
        self.assertEqual((box.letters, box.table), ("ac", ((1, 2), (3, 0), (2, 2), (0, 4), (5, 5), (0, 0))))
        self.assertEqual((len(box), str(box)), (6, "box of 6 places for ac"))
        for name in ("letters", "table"):
            with self.assertRaises(AttributeError):
                setattr(box, name, ())

    def test_where_words_lead(self):
        for box in MANY:
            size = 3 if len(box.letters) == 3 else 4
            for word in words_up_to(box.letters, size):
                self.assertEqual(box(word), led_to(box, word))
                action = tuple(led_to(box, word, start) for start in range(len(box.table)))
                self.assertEqual(box.action(word), action)
                self.assertIs(type(box.action(word)), tuple)
                for start, place in enumerate(action):
                    self.assertEqual(box.place(word, start), place)

    def test_times(self):
        for box in MANY:
            for word in ("", "a", "aa") + (("b", "ab", "bba") if "b" in box.letters else ()):
                if not set(word) <= set(box.letters):
                    continue
                for start in range(len(box.table)):
                    for times in range(14):
                        self.assertEqual(box.place(word, start, times=times), led_to(box, word * times, start))
                    # 60 is a multiple of the length of each ring of at most six places.
                    for times in (10 ** 11, 10 ** 11 - 7, 987654321):
                        near = led_to(box, word * (60 + times % 60), start)
                        self.assertEqual(box.place(word, start, times=times), near)

    def test_first_words_and_lean_boxes(self):
        for box in MANY:
            firsts = {}
            for word in words_up_to(box.letters, 5):
                firsts.setdefault(led_to(box, word), word)
            self.assertEqual([box.first_word(place) for place in range(len(box.table))],
                             [firsts.get(place) for place in range(len(box.table))])
            lean = box.lean()
            self.assertEqual(len(lean), len(firsts))
            self.assertEqual([lean.first_word(place) for place in range(len(lean))], list(firsts.values()))
            order = list(firsts)
            for word in words_up_to(box.letters, 4):
                self.assertEqual(order[lean(word)], box(word))

    def test_machines_of_boxes(self):
        for box in MANY:
            places = range(len(box.table))
            words = words_up_to(box.letters, 4)
            for many in range(min(3, len(places)) + 1):
                for chosen in itertools.islice(itertools.combinations(places, many), 8):
                    try:
                        made = box.machine(chosen)
                    except TooMany as error:
                        self.assertEqual(error.limit, 4)
                        self.assertGreater(self.states_needed(box, chosen), 4)
                        continue
                    check_least(self, made)
                    self.assertEqual(len(made), self.states_needed(box, chosen))
                    self.assertEqual([word in made for word in words], [led_to(box, word) in chosen for word in words])
        five = Box("a", ((1,), (2,), (3,), (4,), (0,)))
        check_error(self, five.machine, ((0,),), TooMany, "limit", 4)
        self.assertEqual(len(five.machine((0, 1, 2, 3, 4))), 1)
        self.assertEqual(len(Box("a", ((1,), (2,), (3,), (0,), (4,))).machine((0,))), 4)
        self.assertEqual(len(Box.rests("ab", 2).machine((0, 3))), 2)

    def states_needed(self, box, chosen):
        """How many places words reach that further words tell apart, by whether they lead to the chosen ones."""
        words = words_up_to(box.letters, 4 if len(box.letters) < 3 else 3)
        met = {led_to(box, word) for word in words_up_to(box.letters, 5)}
        return len({tuple(led_to(box, word, place) in chosen for word in words) for place in met})

    def test_side_by_side(self):
        for letters, seed in (("a", 71), ("ab", 72), ("abc", 73)):
            drawn = some_boxes(letters, 14, seed)
            words = words_up_to(letters, 4)
            for one in drawn:
                for other in drawn:
                    both = one & other
                    self.assertEqual(both.lean(), both)
                    keys = {}
                    for word in words:
                        self.assertEqual(keys.setdefault(both(word), (one(word), other(word))),
                                         (one(word), other(word)))
                    self.assertEqual(len(set(keys.values())), len(keys))

    def test_lean_boxes_and_words(self):
        """[4.1], the first sentence."""
        drawn = [box.lean() for box in all_boxes("ab", 2) + some_boxes("ab", 20, 74, (2, 3))]
        for one in drawn:
            for other in drawn:
                pairs = {(led_to(one, word), led_to(other, word)) for word in words_up_to("ab", 5)}
                alike = len(pairs) == len({left for left, _ in pairs}) == len({right for _, right in pairs})
                self.assertIs(one == other, alike)

    def test_bounds_side_by_side(self):
        ring = Box.rests("a", 4) & Box.rests("a", 9) & Box.rests("a", 11)
        self.assertEqual(len(ring), 396)
        full = ring & Box.caps("a", 4)
        self.assertEqual(len(full), 400)
        self.assertEqual(full & full, full)
        self.assertEqual(full.lean(), full)
        check_error(self, lambda other: ring & other, (Box.caps("a", 5),), TooMany, "limit", 400)
        self.assertEqual(len(Box.rests("ab", 4) & Box.rests("ab", 5)), 400)
        check_error(self, lambda other: Box.rests("ab", 4) & other, (Box.clerk("ab", 1, 5),), TooMany, "limit", 400)
        self.assertEqual(full.place("a", 399, times=10 ** 11), 4 + (399 + 10 ** 11 - 4) % 396)
        self.assertEqual(full.first_word(399), "a" * 399)
        self.assertEqual(full("a" * 400), 4)
        self.assertEqual(full.action("a"), tuple(list(range(1, 400)) + [4]))
        self.assertEqual(str(full), "box of 400 places for a")
        check_error(self, full.machine, ((4,),), TooMany, "limit", 4)
        self.assertEqual(len(full.machine((0,))), 2)

    def test_any_value_beside_a_box(self):
        for value in VALUES:
            same = is_box(value) and (value.letters, value.table) == (LATCH.letters, LATCH.table)
            self.assertIs(LATCH == value, same)
            self.assertIs(LATCH != value, not same)
        self.assertEqual(LATCH, Box("ab", ((1, 0), (1, 1))))
        self.assertNotEqual(LATCH, Box("ac", ((1, 0), (1, 1))))

    def test_the_class_itself_has_its_methods(self):
        for name in MADE + ("letters", "table", "__init__", "__call__", "place", "action", "first_word", "lean",
                            "machine", "__and__", "__len__", "__eq__", "__str__"):
            self.assertIn(name, vars(Box))
        for made in (LATCH & SWITCH, LATCH.lean(), Box.window("a", 1)):
            self.assertIs(type(made), Box)
        self.assertEqual(boxes.Box.__module__, "watchkinds.boxes.boxes")
        for call in (iter, list, tuple):
            with self.assertRaises(TypeError):
                call(LATCH)


class WrongBoxes(unittest.TestCase):
    def test_wrong_boxes(self):
        row = (0, 0)
        wrong = [("ab", (row,) * 7), ("ab", ()), ("ab", [row]), ("ab", ([0, 0],)), ("ab", ((0, 1),)), ("ab", ((0, -1),)),
                 ("ab", ((0, False),)), ("ab", ((0, None),)), ("a", (row,)), ("abc", (row,)), ("ab", (row, (0,))),
                 ("ba", (row,)), ("", ((),)), ("abcd", ((0, 0, 0, 0),)), ("ab", LATCH), ("ab", "00"), ("ab", None)]
        for values in wrong:
            check_error(self, Box, values, InvalidBox)
        self.assertEqual(len(Box("ab", (row,) * 6)), 6)
        letters = Argument("ab", lambda value: is_plain_letters(value) and len(value) == 2, InvalidBox)
        table = Argument(((0, 1), (1, 0)), lambda value: type(value) is tuple and len(value) > 0 and all(
            type(part) is tuple and len(part) == 2 and all(is_plain_number(place, 0, len(value) - 1) for place in part)
            for part in value), InvalidBox)
        check_arguments(self, Box, [letters, table])

    def test_wrong_arguments(self):
        word = Argument("ab", is_plain_word, InvalidWord)
        start = Argument(1, number_from(0, 1), InvalidNumber, "value")
        times = Argument(2, number_from(0, 10 ** 11), InvalidNumber, "value")
        check_arguments(self, LATCH, [word])
        check_arguments(self, LATCH.action, [word])
        check_arguments(self, LATCH.place, [word, start])
        check_arguments(self, lambda given, at, many: LATCH.place(given, at, times=many), [word, start, times])
        check_arguments(self, LATCH.first_word, [start])
        chosen = Argument((0,), lambda value: type(value) is tuple and all(
            is_plain_number(place, 0, 1) for place in value) and list(value) == sorted(set(value)), InvalidOperation)
        check_arguments(self, LATCH.machine, [chosen])
        for call in (LATCH, LATCH.action, lambda given: LATCH.place(given, 0),
                     lambda given: LATCH.place(given, 1, times=0)):
            check_error(self, call, ("abc",), InvalidOperation)
        check_error(self, LATCH.place, ("abc", 2), InvalidNumber, "value", 2)

    def test_wrong_operands(self):
        check_arguments(self, lambda other: LATCH & other, [Argument(SWITCH, is_box, InvalidBox)])
        for letters in ("a", "bc", "abc"):
            check_error(self, lambda other: LATCH & other, (Box(letters, ((0,) * len(letters),)),), InvalidOperation)


if __name__ == "__main__":
    unittest.main()
