"""Blurs of all sorts: just one of a box and a blur, sides exchanged, words against boxes, blurs turned."""

import math
import random
import time
import unittest

from plain import (CLOSES, EVEN, LATCH, NONE, ODD, OPENS, SOME, SWITCH, VALUES, Argument, check_arguments, check_error,
                   check_small, is_machine, led_to, number_from, plain_common_word, random_turner, some_boxes,
                   some_pairs, turner_number)
from test_images import circle, tail
from watchkinds.base.joined import common_word, of_words, repeated
from watchkinds.base.machines import Machine
from watchkinds.boxes.boxes import Box
from watchkinds.boxes.sights import tells_apart
from watchkinds.errors import InvalidMachine, InvalidNumber, InvalidOperation, Refused, TooMany
from watchkinds.ladder.checks import is_of, number_of
from watchkinds.ladder.sorts import SORTS, is_below, is_sort
from watchkinds.turning.papers import blur_of, is_blur, tells, turned, words_against

FOUND = ("recipe", (("word", "a"), ("often", 0)))
FORMS = {"last": "end", "first": "begin", "caps": "counts", "sums": "counts", "clerks": "counts", "pieces": "blocks",
         "latches": "recipe", "turners": "walks"}


def exchanged(blur):
    """A blur with both sides exchanged."""
    if blur[0] == "end":
        return ("end", blur[2], blur[1], blur[3], blur[4])
    if blur[0] == "begin":
        return ("begin", blur[1], blur[2], blur[4], blur[3])
    if blur[0] == "blocks":
        return ("blocks", tuple(step if step[0] == "letter" else ("block", step[2], step[1]) for step in blur[1]))
    if blur[0] == "counts":
        return ("counts", blur[1], blur[3], blur[2])
    return ("walks", blur[2], blur[1]) if blur[0] == "walks" else blur


def pieces_within(word, most):
    """The set of the pieces of a word of at most so many letters, letter by letter."""
    found = {""}
    for letter in word:
        found |= {piece + letter for piece in found if len(piece) < most}
    return found


def are_alike(sort, number, letters, one, other):
    """Whether two words are alike by the meaning of a sort [0.10], for each number up to this one."""
    if sort == "any":
        return one == other
    if sort == "last":
        return one == other or (min(len(one), len(other)) >= number and one[-number:] == other[-number:])
    if sort == "first":
        return one == other or (min(len(one), len(other)) >= number and one[:number] == other[:number])
    if sort == "pieces":
        return pieces_within(one, number) == pieces_within(other, number)
    times = math.lcm(*range(1, number + 1))
    for letter in letters:
        left, right = one.count(letter), other.count(letter)
        if sort != "sums" and left != right and min(left, right) < number:
            return False
        if sort != "caps" and (left - right) % times != 0:
            return False
    return True


def boxes_by_sort(letters, seed):
    """For each sort boxes with their numbers, drawn from many."""
    boxes = some_boxes(letters, 300, seed, places=(2, 3, 3, 4))
    boxes += [Box.window(letters, 1), Box.window(letters, 2), Box.heads(letters, 2), Box.caps(letters, 3),
              Box.rests(letters, 3), Box.rests(letters, 4), Box.clerk(letters, 1, 2), Box.clerk(letters, 2, 3),
              Box.caps(letters, 1) & Box.rests(letters, 2), Box.window(letters, 1) & Box.heads(letters, 1)]
    some = random.Random(seed)
    boxes += [random_turner(some, letters, places) for places in (2, 3, 4) for _ in range(4)]
    found = {sort: [] for sort in SORTS}
    for sort in ("last", "first", "caps", "sums", "clerks", "latches", "turners"):
        for box in boxes:
            number = number_of(box, sort)
            if number is not None:
                found[sort].append((box, max(1, number)))
    found["pieces"] = [(Box.pieces(letters, most), most) for most in (1, 2)] + found["caps"]
    found["any"] = [(box, 1) for box in boxes[:40]]
    return found


class Sorts(unittest.TestCase):
    def pairs(self):
        return (some_pairs(60, 901, states=(1, 2, 3)) + some_pairs(40, 902, states=(2, 3), alphabets=("a", "ab"))
                + [(EVEN, ODD), (SOME, NONE), (OPENS, ~OPENS), (CLOSES, ~CLOSES), (EVEN, SOME), (OPENS, CLOSES)])

    def blurs(self):
        """All pairs, each with its blurs by sorts, as far as they are found."""
        for one, other in self.pairs():
            found = {}
            for sort in SORTS:
                try:
                    found[sort] = blur_of(one, other, sort)
                except TooMany as raised:
                    self.assertEqual((sort, raised.limit), ("latches", 64))
            yield one, other, found

    def test_just_one_is_there(self):
        forms = set()
        for one, other, found in self.blurs():
            for sort, blur in found.items():
                self.assertIs(tells(one, other, sort), blur is None)
                if blur is not None:
                    self.assertIs(is_blur(one, other, sort, blur), True)
                    self.assertIn(blur[0], ("word", FORMS.get(sort)))
                    check_small(self, blur)
                    forms.add((sort, blur[0]))
                    # If there is a blur for a sort, there is one for each sort below it.
                    self.assertTrue(all(found.get(lower, blur) is not None for lower in SORTS if is_below(lower, sort)))
                    self.assertIs(is_blur(one, other, "any", blur), blur[0] == "word")
            word = plain_common_word(one, other, 20)
            self.assertEqual(found["any"] is None, word is None)
            if word is not None:
                self.assertTrue(all(is_blur(one, other, sort, ("word", word)) for sort in SORTS))
        self.assertGreaterEqual(forms, set(FORMS.items()))

    def test_boxes_of_a_sort_tell_no_more_than_the_sort(self):
        told = {sort: 0 for sort in SORTS}
        boxes = {letters: boxes_by_sort(letters, 91) for letters in ("a", "ab", "abc")}
        for one, other, found in self.blurs():
            for sort, blur in found.items():
                for box, _ in boxes[one.letters][sort]:
                    if tells_apart(one, other, box):
                        self.assertIsNone(blur)
                        told[sort] += 1
        self.assertGreater(min(told.values()), 20)

    def test_sides_exchanged(self):
        swapped = set()
        for one, other, found in self.blurs():
            for sort, blur in found.items():
                if blur is not None:
                    self.assertIs(is_blur(other, one, sort, exchanged(blur)), True)
                    swapped.add(blur[0] if exchanged(blur) != blur else None)
        self.assertGreaterEqual(swapped, {"end", "begin", "blocks", "counts", "walks"})

    def test_words_against_boxes(self):
        some = random.Random(92)
        boxes = {letters: boxes_by_sort(letters, 93) for letters in ("a", "ab", "abc")}
        made = {sort: 0 for sort in SORTS}
        for one, other, found in self.blurs():
            for sort, blur in found.items():
                for number in range(1, 7) if blur is not None else ():
                    left, right = words_against(one, other, sort, blur, number)
                    self.assertLessEqual(max(len(left), len(right)), 100000)
                    self.assertTrue(led_to(one, left) in one.ends and led_to(other, right) in other.ends)
                    if sort not in ("latches", "turners"):
                        self.assertTrue(are_alike(sort, number, one.letters, left, right))
                    able = [box for box, least in boxes[one.letters][sort] if least <= number]
                    for box in some.sample(able, min(4, len(able))):
                        self.assertEqual([led_to(box, left, place) for place in range(len(box))],
                                         [led_to(box, right, place) for place in range(len(box))])
                        made[sort] += left != right
        self.assertGreater(min([many for sort, many in made.items() if sort != "any"]), 100)
        self.assertTrue(all(turner_number(box) <= 12 for box, _ in boxes["ab"]["turners"]))

    def test_turned(self):
        some = random.Random(94)
        for one, other, found in self.blurs():
            for sort, blur in found.items():
                if blur is None:
                    continue
                for lower in SORTS:
                    if not is_below(lower, sort):
                        check_error(self, turned, (one, other, sort, blur, lower), Refused, "reason", lower)
                        continue
                    made = turned(one, other, sort, blur, lower)
                    self.assertIs(is_blur(one, other, lower, made), True)
                    check_small(self, made)
                    least = some.choice([under for under in SORTS if is_below(under, lower)])
                    self.assertIs(is_blur(one, other, least, turned(one, other, lower, made, least)), True)

    def test_one_paper_for_clerks_tells_of_caps_and_sums(self):
        """A blur for the clerks is one for the caps as it stands, and for the sums with all letters large [13.3]."""
        many = 0
        for one, other, found in self.blurs():
            blur = found["clerks"]
            if blur is not None and blur[0] == "counts":
                self.assertIs(is_blur(one, other, "caps", blur), True)
                self.assertIs(is_blur(one, other, "sums", blur[:1] + (one.letters,) + blur[2:]), True)
                many += 1
        self.assertGreater(many, 5)


class TooGreat(unittest.TestCase):
    def test_too_many_come_last(self):
        five = repeated(of_words("a", ("aaaaa",)))
        self.assertEqual(len(five), 5)
        for one, other in ((five, ~five), (five, five)):
            for sort in ("caps", "sums", "clerks"):
                for call in (tells, blur_of):
                    check_error(self, call, (one, other, sort), TooMany, "limit", 4)
            for sort in ("last", "first", "pieces", "latches", "turners", "any"):
                self.assertIs(tells(one, other, sort), blur_of(one, other, sort) is None)
                self.assertIs(tells(one, other, sort), one != other and sort in ("turners", "any"))
        for one, other in ((circle(8), tail(57)), (tail(64), tail(64))):
            for call in (tells, blur_of):
                check_error(self, call, (one, other, "latches"), TooMany, "limit", 64)
                check_error(self, call, (one, EVEN, "latches"), InvalidOperation)
                check_error(self, call, (one, EVEN, "caps"), InvalidOperation)
                check_error(self, call, (one, None, "caps"), InvalidMachine)

    def test_blurs_of_great_machines_are_judged(self):
        five = repeated(of_words("a", ("aaaaa",)))
        for sort in SORTS:
            self.assertIs(is_blur(five, five, sort, ("word", "a" * 5)), True)
            self.assertEqual(words_against(five, five, sort, ("word", "a" * 5), 6), ("a" * 5,) * 2)
            for lower in SORTS:
                if is_below(lower, sort):
                    self.assertEqual(turned(five, five, sort, ("word", ""), lower), ("word", ""))
        self.assertIs(is_blur(tail(64), tail(64), "latches", ("word", "a" * 63)), True)
        one, other = five, ~five
        blur = ("recipe", (("word", "a"), ("often", 0)))
        self.assertIs(is_blur(one, other, "latches", blur), True)
        for lower in ("last", "first", "pieces", "latches"):
            self.assertIs(is_blur(one, other, lower, turned(one, other, "latches", blur, lower)), True)
        try:
            self.assertIs(is_blur(one, other, "caps", turned(one, other, "latches", blur, "caps")), True)
        except TooMany as found:
            self.assertEqual(found.limit, 4)

    def test_blurs_of_many_maps(self):
        """Blurs are judged, made into words and turned also where words make more than sixty-four maps."""
        one, other = circle(8) & circle(9), circle(8) - circle(9)
        self.assertEqual((len(one), len(other)), (72, 72))
        blur = ("recipe", (("word", "a" * 8), ("often", 0)))
        self.assertIs(is_blur(one, other, "latches", blur), True)
        left, right = words_against(one, other, "latches", blur, 3)
        self.assertTrue(left in one and right in other)
        made = turned(one, other, "latches", blur, "last")
        self.assertIs(is_blur(one, other, "last", made), True)
        check_error(self, tells, (one, other, "latches"), TooMany, "limit", 64)

    def test_words_that_are_too_long(self):
        deep = ("recipe", (("word", "a"),) + tuple(("often", at) for at in range(30)))
        check_error(self, words_against, (EVEN, ODD, "latches", deep, 2), TooMany, "limit", 100000)
        check_error(self, words_against, (EVEN, ODD, "latches", deep, 7), InvalidNumber, "value", 7)
        full = Machine("ab", ((0, 0),), (0,))
        walk = ((0, "A", 0),) * 1700
        check_error(self, words_against, (full, full, "turners", ("walks", walk, walk), 6), TooMany, "limit", 100000)
        side = ("", ((0, "b", 100001),))
        check_error(self, words_against, (full, full, "clerks", ("counts", "", side, side), 1), TooMany, "limit",
                    100000)

    def test_time(self):
        begin = time.perf_counter()
        for one, other in some_pairs(8, 903, states=(4,), alphabets=("abc",)):
            for sort in SORTS:
                try:
                    tells(one, other, sort)
                    blur = blur_of(one, other, sort)
                    if blur is not None:
                        words_against(one, other, sort, blur, 6)
                except TooMany as found:
                    self.assertIn(found.limit, (64, 100000))
        self.assertLess(time.perf_counter() - begin, 20)


class WrongArguments(unittest.TestCase):
    def test_wrong_arguments(self):
        one, other = Argument(EVEN, is_machine, InvalidMachine), Argument(ODD, is_machine, InvalidMachine)
        sort = Argument("latches", is_sort, InvalidOperation)
        blur = Argument(FOUND, lambda value: value == FOUND, InvalidOperation)
        number = Argument(3, number_from(1, 6), InvalidNumber, "value")
        lower = Argument("caps", is_sort, InvalidOperation)
        for call in (tells, blur_of, lambda a, b, c: is_blur(a, b, c, None)):
            check_arguments(self, call, [one, other, sort])
        # The blur is looked at behind the number, and behind the lower sort.
        check_arguments(self, lambda a, b, c, n: words_against(a, b, c, FOUND, n), [one, other, sort, number])
        check_arguments(self, lambda a, b, c, n, v: words_against(a, b, c, v, n), [one, other, sort, number, blur])
        check_arguments(self, lambda a, b, c, n, v: turned(a, b, c, v, n), [one, other, sort, lower, blur])

    def test_errors_in_their_order(self):
        short = Machine("a", ((0,), (0,)), (0,))
        for sort in SORTS:
            for call in (tells, blur_of, lambda *three: is_blur(*three, None)):
                check_error(self, call, (EVEN, short, sort), InvalidOperation)
            check_error(self, words_against, (EVEN, short, sort, ("word", ""), 7), InvalidNumber, "value", 7)
            check_error(self, words_against, (EVEN, short, sort, ("word", ""), 3), InvalidOperation)
            check_error(self, turned, (EVEN, short, sort, ("word", ""), "any"), InvalidOperation)
            check_error(self, turned, (EVEN, ODD, sort, ("word", ""), "any"), InvalidOperation)
        check_error(self, turned, (EVEN, ODD, "caps", None, "latches"), InvalidOperation)
        check_error(self, turned, (EVEN, ODD, "latches", FOUND, "sums"), Refused, "reason", "sums")
        check_error(self, turned, (EVEN, ODD, "latches", FOUND, "any"), Refused, "reason", "any")

    def test_any_value_is_judged(self):
        for value in VALUES:
            for sort in SORTS:
                for one, other in ((EVEN, ODD), (SOME, CLOSES)):
                    found = is_blur(one, other, sort, value)
                    word = type(value) is tuple and len(value) == 2 and value[0] == "word"
                    if word or sort == "any":
                        self.assertIs(found, word and value[1] in one and value[1] in other, repr(value))
                    else:
                        self.assertIn(found, (True, False))
                        self.assertTrue(not found or value[0] == FORMS[sort])

    def test_boxes_of_the_examples(self):
        self.assertTrue(is_of(LATCH, "latches") and is_of(SWITCH, "turners"))
        self.assertEqual(common_word(EVEN, SOME), "aa")
        self.assertEqual(blur_of(EVEN, SOME, "any"), ("word", "aa"))


if __name__ == "__main__":
    unittest.main()
