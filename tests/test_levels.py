"""Rows of levels: what they are, where words lead them, their boxes, rows beside one another, row papers."""

import itertools
import random
import unittest

from plain import (LATCH, SWITCH, VALUES, Argument, check_arguments, check_error, is_box, is_plain_letters,
                   is_plain_number, is_plain_word, led_to, number_from, words_up_to)
from watchkinds.boxes.boxes import Box
from watchkinds.errors import InvalidBox, InvalidNumber, InvalidOperation, InvalidWord, TooMany
from watchkinds.ladder.checks import is_of
from watchkinds.rows import levels
from watchkinds.rows.levels import (MAX_STANDS, MAX_VALUES, is_row_of, is_row_paper, rearranges_alone, resets_alone,
                                    row_box, rows_beside, stand_after, stands)

LATCHED = ((2, 0, ({(): 1}, {})),)
TURNED = ((3, 0, ({(): (1, 2, 0)}, {})),)
BOTH = ((2, 0, ({(): 1}, {})), (2, 0, ({(1,): (1, 0)}, {})))


def is_plain_row(letters, value):
    """The words of [7.1], one after the other."""
    if type(value) is not tuple:
        return False
    for at, level in enumerate(value):
        if type(level) is not tuple or len(level) != 3 or not is_plain_number(level[0], 2, 12):
            return False
        if not is_plain_number(level[1], 0, level[0] - 1) or type(level[2]) is not tuple:
            return False
        if len(level[2]) != len(letters) or any(type(rule) is not dict for rule in level[2]):
            return False
        keys = list(itertools.product(*[range(ahead[0]) for ahead in value[:at]]))
        turns = range(level[0])
        for rule in level[2]:
            for key, deed in rule.items():
                if type(key) is not tuple or key not in keys or any(type(part) is not int for part in key):
                    return False
                if type(deed) is tuple:
                    if sorted(map(repr, deed)) != sorted(map(repr, turns)):
                        return False
                elif not is_plain_number(deed, 0, level[0] - 1):
                    return False
    return True


def plain_step(letters, row, stand, letter):
    after = []
    for at, (_, _, rules) in enumerate(row):
        rule = rules[letters.index(letter)]
        if stand[:at] not in rule:
            after.append(stand[at])
        elif type(rule[stand[:at]]) is tuple:
            after.append(rule[stand[:at]][stand[at]])
        else:
            after.append(rule[stand[:at]])
    return tuple(after)


def plain_stand(letters, row, word):
    stand = tuple(level[1] for level in row)
    for letter in word:
        stand = plain_step(letters, row, stand, letter)
    return stand


def plain_after(letters, row, word, times):
    """What a word does to all stands, reached or not, taken twice as often again and again."""
    held = {stand: stand for stand in itertools.product(*[range(level[0]) for level in row])}
    goes = dict(held)
    for letter in word:
        goes = {stand: plain_step(letters, row, after, letter) for stand, after in goes.items()}
    while times:
        if times % 2:
            held = {stand: goes[after] for stand, after in held.items()}
        goes = {stand: goes[after] for stand, after in goes.items()}
        times //= 2
    return held[tuple(level[1] for level in row)]


def plain_stands(letters, row):
    """All reached stands, by going through the words of each length as long as there are new ones."""
    found = [plain_stand(letters, row, "")]
    layer = found
    while layer:
        layer = list(dict.fromkeys(plain_step(letters, row, stand, letter) for stand in layer for letter in letters))
        layer = [stand for stand in layer if stand not in found]
        found = found + layer
    return tuple(found)


def random_deed(some, values, kinds):
    if some.choice(kinds) == "reset":
        return some.randrange(values)
    return tuple(some.sample(range(values), values))


def random_row(some, letters, many, most=4, kinds=("reset", "turn"), often=0.6):
    row = []
    for _ in range(many):
        values = some.randint(2, most)
        keys = list(itertools.product(*[range(level[0]) for level in row]))
        rules = tuple({key: random_deed(some, values, kinds) for key in some.sample(keys, len(keys))
                       if some.random() < often} for _ in letters)
        row.append((values, some.randrange(values), rules))
    return tuple(row)


def some_rows(letters, many, seed, **told):
    some = random.Random(seed)
    return [random_row(some, letters, at % 4, **told) for at in range(many)]


def odometer(*sizes):
    """A row that `a` counts on, with the least figure first."""
    row = []
    for at, values in enumerate(sizes):
        full = tuple(size - 1 for size in sizes[:at])
        row.append((values, 0, ({full: tuple((value + 1) % values for value in range(values))}, {})))
    return tuple(row)


class Rows(unittest.TestCase):
    def test_constants(self):
        self.assertEqual((MAX_VALUES, MAX_STANDS), (12, 1000))

    def test_which_values_are_rows(self):
        turn = tuple(range(1, 12)) + (0,)
        for row in ((), LATCHED, TURNED, BOTH, ((2, 1, ({}, {})),), ((12, 11, ({(): turn}, {(): 11})),),
                    BOTH + ((2, 0, ({}, {(0, 1): 1, (1, 0): (0, 1)})),), odometer(2, 3, 4, 5, 6, 7)):
            self.assertIs(is_row_of("ab", row), True, row)
        self.assertIs(is_row_of("abc", ((2, 0, ({}, {}, {(): 1})),)), True)
        for row in (((1, 0, ({}, {})),), ((13, 0, ({}, {})),), ((2, 2, ({}, {})),), ((2, -1, ({}, {})),),
                    ((2, 0, ({},)),), ((2, 0, ({}, {}, {})),), ((2, 0, [{}, {}]),), ((2, 0, ({}, ())),),
                    ((2, 0, ({(0,): 1}, {})),), ((2, 0, ({0: 1}, {})),), ((2, 0, ({"": 1}, {})),),
                    ((2, 0, ({(): 2}, {})),), ((2, 0, ({(): -1}, {})),), ((2, 0, ({(): True}, {})),),
                    ((2, 0, ({(): None}, {})),), ((2, 0, ({(): (0, 0)}, {})),), ((2, 0, ({(): (0, 1, 2)}, {})),),
                    ((2, 0, ({(): (0,)}, {})),), ((2, 0, ({(): (False, True)}, {})),), ((2, 0, ({(): [1, 0]}, {})),),
                    ((2, 0, ({(): (1, 2)}, {})),), ((True, 0, ({}, {})),), ((2, False, ({}, {})),), ((2, 0),), (2, 0),
                    ((2, 0, ({}, {}), 0),), [(2, 0, ({}, {}))], ([2, 0, ({}, {})],), (((2, 0), ({}, {})),),
                    BOTH[1:], BOTH[:1] + ((2, 0, ({(2,): 0}, {})),), BOTH[:1] + ((2, 0, ({(True,): 0}, {})),),
                    BOTH[:1] + ((2, 0, ({(): 0}, {})),), BOTH[:1] + ((2, 0, ({(0, 0): 0}, {})),),
                    BOTH[:1] + ((2, 0, ({((0,),): 0}, {})),), BOTH[:1] + ((2, 0, ({(-1,): 0}, {})),)):
            self.assertIs(is_row_of("ab", row), False, row)

    def test_any_value_is_judged(self):
        for letters in ("a", "ab", "xyz"):
            for value in VALUES:
                made = [value, (value,), LATCHED + (value,), ((2, 0, value),), ((value, 0, ({}, {})),),
                        ((2, value, ({}, {})),), ((2, 0, (value, {})),), ((2, 0, ({(): value}, {})),),
                        BOTH[:1] + ((3, 0, ({}, {(1,): (value, 0, 1)})),)]
                if type(value) in (int, bool, str):
                    made += [((2, 0, ({value: 0}, {})),), BOTH[:1] + ((2, 0, ({(value,): 0}, {})),)]
                for row in made:
                    self.assertIs(is_row_of(letters, row), is_plain_row(letters, row), repr(row))

    def test_resets_and_rearrangements(self):
        for row, resets, turns in (((), True, True), (((2, 0, ({}, {})),), True, True), (LATCHED, True, False),
                                   (TURNED, False, True), (BOTH, False, False),
                                   (((2, 0, ({}, {(): (0, 1)})),), False, True)):
            self.assertIs(resets_alone("ab", row), resets)
            self.assertIs(rearranges_alone("ab", row), turns)

    def test_words_lead_stands(self):
        some = random.Random(7)
        for letters in ("a", "ab", "abc"):
            for row in some_rows(letters, 60, 71):
                for word in words_up_to(letters, 2) + ["".join(some.choices(letters, k=6)) for _ in range(3)]:
                    self.assertEqual(stand_after(letters, row, word), plain_stand(letters, row, word))
                    for times in (0, 1, 2, 5, some.randint(3, 40), some.randint(41, 10 ** 11), 10 ** 11):
                        self.assertEqual(stand_after(letters, row, word, times=times),
                                         plain_after(letters, row, word, times), (row, word, times))

    def test_words_repeated_over_great_rows(self):
        row = odometer(12, 12, 12, 12)
        for word, times in (("a", 10 ** 11), ("a", 10 ** 11 - 1), ("aba", 12345678901), ("b", 10 ** 11), ("a", 20735)):
            count = word.count("a") * times
            self.assertEqual(stand_after("ab", row, word, times=times),
                             tuple(count // 12 ** at % 12 for at in range(4)))
        row = odometer(12, 12, 12, 12, 12, 12)
        self.assertEqual(stand_after("ab", row, "a" * 300, times=2), (0, 2, 4, 0, 0, 0))
        self.assertEqual(stand_after("ab", row, "a", times=10 ** 11),
                         tuple(10 ** 11 // 12 ** at % 12 for at in range(6)))

    def test_all_stands_in_their_order(self):
        for letters in ("a", "ab", "abc"):
            for row in some_rows(letters, 60, 73):
                found = plain_stands(letters, row)
                self.assertEqual(stands(letters, row), found)
                box = row_box(letters, row)
                self.assertEqual((type(box), box.letters), (Box, letters))
                self.assertEqual(box.table, tuple(tuple(found.index(plain_step(letters, row, stand, letter))
                                                        for letter in letters) for stand in found))
        self.assertEqual((stands("ab", ()), row_box("ab", ()).table), (((),), ((0, 0),)))

    def test_as_many_stands_as_may_be(self):
        full = odometer(10, 10, 10)
        self.assertEqual((len(stands("ab", full)), len(row_box("ab", full))), (1000, 1000))
        self.assertEqual(row_box("ab", full)("a" * 400), 400)
        # One stand more: the figures count only once any letter has come.
        late = tuple((values, first, tuple({(1,) + key: rule[key] for key in rule} for rule in rules))
                     for values, first, rules in full)
        over = ((2, 0, ({(): 1}, {(): 1})),) + late
        for row in (over, odometer(10, 10, 11), odometer(12, 12, 12, 12, 12, 12)):
            for call in (stands, row_box):
                check_error(self, call, ("ab", row), TooMany, "limit", 1000)
        self.assertEqual(stand_after("ab", over, "a", times=1002), (1, 1, 0, 0))

    def test_passed_rows_stay_as_they_are(self):
        inner = {(1,): (1, 0), (0,): 1}
        row = (BOTH[0], (2, 0, (inner, {})))
        beside = rows_beside("ab", row, row)
        beside[1][2][0][(0,)] = 0
        beside[3][2][0].clear()
        self.assertEqual(list(inner.items()), [((1,), (1, 0)), ((0,), 1)])
        self.assertEqual(rows_beside("ab", row, ()), row)


class Beside(unittest.TestCase):
    def test_all_entries(self):
        for letters in ("a", "ab", "abc"):
            rows = some_rows(letters, 40, 75, most=3)
            for one, other in zip(rows, rows[::-1]):
                beside = rows_beside(letters, one, other)
                aheads = list(itertools.product(*[range(level[0]) for level in one]))
                plain = one + tuple((values, first, tuple({ahead + key: rule[key] for ahead in aheads for key in rule}
                                                          for rule in rules)) for values, first, rules in other)
                self.assertEqual(beside, plain)
                self.assertIs(is_plain_row(letters, beside), True)
                for _, _, rules in beside:
                    for rule in rules:
                        self.assertEqual(list(rule), sorted(rule))

    def test_as_many_tuples_as_may_be(self):
        bare = tuple((10, 0, ({}, {})) for _ in range(3))
        beside = rows_beside("ab", bare, LATCHED)
        self.assertEqual((len(beside), len(beside[3][2][0]), beside[3][2][1]), (4, 1000, {}))
        over = tuple((values, 0, ({}, {})) for values in (7, 11, 12))
        self.assertEqual(len(rows_beside("ab", over, LATCHED)[3][2][0]), 924)
        for row in (tuple((values, 0, ({}, {})) for values in (8, 12, 11)), odometer(12, 12, 12),
                    ((2, 0, ({}, {})),) * 10):
            check_error(self, rows_beside, ("ab", row, LATCHED), TooMany, "limit", 1000)
            check_error(self, rows_beside, ("ab", row, ()), TooMany, "limit", 1000)
            self.assertEqual(rows_beside("ab", (), row), row)
            self.assertEqual(rows_beside("ab", LATCHED, row)[0], LATCHED[0])

    def test_returned_rows_are_passed(self):
        row = ()
        for _ in range(8):
            row = rows_beside("ab", row, LATCHED)
        self.assertEqual(stand_after("ab", row, "bab", times=3), (1,) * 8)
        self.assertEqual(stands("ab", row), ((0,) * 8, (1,) * 8))

    def test_what_rows_make(self):
        for letters in ("a", "ab"):
            for kinds, sort in ((("reset",), "latches"), (("turn",), "turners")):
                rows = some_rows(letters, 24, 77, most=3, kinds=kinds)
                for row in rows:
                    try:
                        self.assertIs(is_of(row_box(letters, row), sort), True)
                    except TooMany:
                        pass
            rows = some_rows(letters, 30, 79, most=3)
            for one, other in zip(rows, rows[7:]):
                beside = row_box(letters, rows_beside(letters, one, other))
                boxes = row_box(letters, one), row_box(letters, other)
                found = {}
                for word in words_up_to(letters, 7):
                    pair = tuple(led_to(box, word) for box in boxes)
                    self.assertEqual(found.setdefault(pair, led_to(beside, word)), led_to(beside, word))
                self.assertEqual(len(set(found.values())), len(found))


class Papers(unittest.TestCase):
    def test_right_papers_and_such_near_them(self):
        for letters in ("a", "ab"):
            for row in some_rows(letters, 40, 81, most=3):
                box = row_box(letters, row)
                right = tuple(range(len(box)))
                self.assertIs(is_row_paper(box, (row, right)), True)
                near = [right[:-1], right + (0,), right[::-1], list(right), (), None, right[:-1] + (True,)]
                near += [right[:at] + (other,) + right[at + 1:] for at in right for other in (0, 1, len(box), -1)]
                for places in near:
                    expected = places == right and type(places) is tuple and all(type(at) is int for at in places)
                    self.assertIs(is_row_paper(box, (row, places)), expected, (row, places))
                for value in (row, (row,), (row, right, 0), [row, right], (right, row), (right, right), None):
                    self.assertIs(is_row_paper(box, value), False)

    def test_rows_greater_than_the_box(self):
        self.assertIs(is_row_paper(LATCH, (BOTH, (0, 1, 1))), True)
        self.assertIs(is_row_paper(LATCH, (BOTH, (0, 1, 0))), False)
        self.assertIs(is_row_paper(LATCH, (BOTH, (0, 1))), False)
        self.assertIs(is_row_paper(LATCH, (BOTH, (1, 1, 1))), False)
        self.assertIs(is_row_paper(Box("ab", ((0, 0), (1, 1))), (BOTH, (1, 1, 1))), False)
        self.assertIs(is_row_paper(SWITCH, (BOTH, (0, 1, 0))), True)
        self.assertIs(is_row_paper(SWITCH, (BOTH, (0, 1, 1))), False)
        self.assertIs(is_row_paper(Box("a", ((0,),)), (BOTH, (0, 0, 0))), False)
        self.assertIs(is_row_paper(SWITCH, (odometer(12, 12, 12), tuple(at % 2 for at in range(1728)))), True)
        self.assertIs(is_row_paper(SWITCH, (odometer(12, 12, 12), tuple(at % 2 for at in range(1727)))), False)
        self.assertIs(is_row_paper(SWITCH, (odometer(12, 12, 12, 12, 12, 12), (0, 1))), False)
        self.assertIs(is_row_paper(Box("ab", ((0, 0),)), ((), (0,))), True)

    def test_any_value_is_judged(self):
        for value in VALUES:
            rows = (((2, 0, ({(): 1}, {})),), (0, 1))
            self.assertIs(is_row_paper(LATCH, value), repr(value) == repr(rows), repr(value))
            self.assertIs(is_row_paper(LATCH, (LATCHED, value)), repr(value) == repr((0, 1)))
            self.assertIs(is_row_paper(LATCH, (value, (0, 1))), repr(value) == repr(LATCHED))


class WrongRows(unittest.TestCase):
    def test_wrong_arguments(self):
        letters = Argument("ab", is_plain_letters, InvalidOperation)
        row = Argument(BOTH, lambda value: is_plain_row("ab", value), InvalidOperation)
        word = Argument("ab", is_plain_word, InvalidWord)
        over = Argument("ab", lambda value: is_plain_word(value) and set(value) <= {"a", "b"}, None)
        times = Argument(3, number_from(0, 10 ** 11), InvalidNumber, "value")
        check_arguments(self, lambda one: is_row_of(one, ()), [letters])
        for call in (resets_alone, rearranges_alone, stands, row_box):
            check_arguments(self, call, [letters, row])
        check_arguments(self, rows_beside, [letters, row, row])
        check_arguments(self, lambda one, two, three, four: stand_after(one, two, three, times=four),
                        [letters, row, word, times])
        check_arguments(self, lambda one: is_row_paper(one, None), [Argument(LATCH, is_box, InvalidBox)])
        for wrong in over.wrong():
            if is_plain_word(wrong):
                check_error(self, stand_after, ("ab", BOTH, wrong), InvalidOperation)
                check_error(self, lambda *told: stand_after(*told, times=-1), ("ab", BOTH, wrong), InvalidNumber,
                            "value", -1)
                check_error(self, lambda *told: stand_after(*told, times=0), ("ab", BOTH, wrong), InvalidOperation)

    def test_rows_of_other_letters(self):
        for call in (resets_alone, rearranges_alone, stands, row_box):
            check_error(self, call, ("a", BOTH), InvalidOperation)
            check_error(self, call, ("abc", BOTH), InvalidOperation)
        check_error(self, rows_beside, ("ab", odometer(12, 12, 12), ((2, 0, ({},)),)), InvalidOperation)

    def test_defined_in_the_module(self):
        for name in ("is_row_of", "resets_alone", "rearranges_alone", "stand_after", "stands", "row_box",
                     "rows_beside", "is_row_paper"):
            self.assertEqual(getattr(levels, name).__module__, "watchkinds.rows.levels")


if __name__ == "__main__":
    unittest.main()
