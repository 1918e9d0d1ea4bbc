"""What latches tell apart: the greatest clouds, blurs, clear papers, and words that latches lead alike."""

import random
import time
import unittest

from plain import (CLOSES, EVEN, NONE, ODD, OPENS, SOME, VALUES, Argument, all_boxes, check_arguments, check_error,
                   check_just_one, check_small, is_machine, led_to, number_from, plain_common_word, random_machine,
                   some_boxes, some_pairs)
from test_clouds import (circle, is_plain_blur, is_plain_clear, is_plain_recipe, plain_clouds, plain_map, plain_often,
                         plain_product, plain_words_of_maps, random_recipe, tail)
from watchkinds.base.joined import is_order_free, of_words
from watchkinds.base.machines import Machine, least_machine
from watchkinds.counts.finding import counts_blur
from watchkinds.errors import InvalidMachine, InvalidNumber, InvalidOperation, TooMany
from watchkinds.ladder.checks import number_of
from watchkinds.latches.finding import (MAX_LENGTH, MAX_NUMBER, are_told_by_latches, greatest_clouds, latch_word,
                                        latches_blur, latches_clear, latches_words)
from watchkinds.latches.papers import is_latches_blur, is_latches_clear

STEPS = (("word", "a"), ("often", 0))


def small_pairs(many, seed, most=64, **more):
    """Pairs of machines whose words make at most so many maps."""
    return [(one, other) for one, other in some_pairs(many, seed, **more)
            if plain_words_of_maps(one, other, most) is not None]


def plain_greatest(one, other):
    """The greatest clouds by a plain closing, in which the parts of clouds are left out."""
    kept = {(made,) for made in plain_words_of_maps(one, other)}
    while True:
        found = kept | {plain_often(cloud)[0] for cloud in kept}
        found |= {plain_product(left, right) for left in kept for right in kept}
        greatest = {cloud for cloud in found
                    if not any(cloud != held and set(cloud) <= set(held) for held in found)}
        if greatest == kept:
            return tuple(sorted(kept))
        kept = greatest


def ends_from(recipe, at, number, word, start):
    """The set of the places in a word at which words for a step end that begin at a place in it."""
    step = recipe[at]
    if step[0] == "word":
        return {start + len(step[1])} if word.startswith(step[1], start) else set()
    if step[0] == "both":
        return {end for middle in ends_from(recipe, step[1], number, word, start)
                for end in ends_from(recipe, step[2], number, word, middle)}
    held = {start}
    for _ in range(number):
        held = {end for middle in held for end in ends_from(recipe, step[1], number, word, middle)}
    queue = sorted(held)
    for middle in queue:
        queue.extend(sorted(ends_from(recipe, step[1], number, word, middle) - set(queue)))
    return set(queue)


def is_word_for(recipe, number, word):
    return len(word) in ends_from(recipe, len(recipe) - 1, number, word, 0)


def latch_boxes(letters):
    """Many small boxes of the sort of the latches, with their numbers."""
    boxes = all_boxes(letters, 2) + some_boxes(letters, 120, 77, places=(3, 4))
    found = [(box, number_of(box, "latches")) for box in boxes]
    return [(box, number) for box, number in found if number is not None]


class Found(unittest.TestCase):
    def pairs(self):
        return small_pairs(160, 801) + [(EVEN, ODD), (SOME, NONE), (OPENS, ~OPENS), (CLOSES, ~CLOSES), (EVEN, EVEN)]

    def test_just_one_is_there(self):
        told = blurred = 0
        for one, other in self.pairs():
            blur, paper = latches_blur(one, other), latches_clear(one, other)
            if check_just_one(self, one, other, blur, paper, are_told_by_latches(one, other)):
                self.assertTrue(is_latches_clear(one, other, paper) is is_plain_clear(one, other, paper) is True)
                told += bool(one.ends and other.ends)
            else:
                self.assertTrue(is_latches_blur(one, other, blur) is is_plain_blur(one, other, blur) is True)
                blurred += blur[0] == "recipe"
        self.assertGreater(told, 30)
        self.assertGreater(blurred, 20)

    def test_greatest_clouds(self):
        joined = 0
        for one, other in small_pairs(80, 802, most=24) + [(EVEN, ODD), (SOME, NONE)]:
            found = greatest_clouds(one, other)
            self.assertEqual(found, plain_greatest(one, other))
            check_small(self, found)
            joined += max(len(cloud) for cloud in found) > 1
        self.assertGreater(joined, 20)

    def test_machines_in_which_no_word_goes_round(self):
        still = 0
        for one, other in small_pairs(60, 803) + [(SOME, NONE), (OPENS, CLOSES)]:
            words = plain_words_of_maps(one, other)
            if all(len(plain_often((made,))[0]) == 1 for made in words):
                self.assertEqual(greatest_clouds(one, other), tuple(sorted((made,) for made in words)))
                told = plain_common_word(one, other, 20) is None
                self.assertIs(are_told_by_latches(one, other), told)
                still += 1
        self.assertGreater(still, 5)

    def test_more_than_sixty_four_maps(self):
        for one, other in [(circle(8), tail(57)), (tail(49), circle(16)), (tail(64), tail(64))]:
            for call, rest in ((greatest_clouds, ()), (latches_blur, ()), (latches_clear, ()),
                               (are_told_by_latches, ())):
                # Also where a word of both would be a blur.
                check_error(self, call, (one, other, *rest), TooMany, "limit", 64)
        for one, other in [(circle(8), tail(56)), (tail(48), circle(16)), (tail(63), tail(40))]:
            blur = latches_blur(one, other)
            self.assertEqual(blur is None, latches_clear(one, other) is not None)
            self.assertTrue(blur is None or is_plain_blur(one, other, blur))

    def test_long_words_in_recipes(self):
        """Words of more than sixty letters are made of two steps."""
        ring, still = circle(3), Machine("a", ((0,),), (0,))
        end = Machine("a", ((0,),), ())
        blur = latches_blur(ring, ~ring)
        self.assertEqual((blur[0], is_plain_blur(ring, ~ring, blur)), ("recipe", True))
        self.assertEqual(latches_blur(still, end), None)
        # Behind its tail of 61 letters the first machine goes round.
        table = tuple([(at + 1 if at < 62 else 61,) for at in range(63)])
        one, other = least_machine("a", table, (61,)), least_machine("a", table, (62,))
        self.assertEqual(len(plain_words_of_maps(one, other)), 63)
        blur = latches_blur(one, other)
        self.assertEqual((blur[0], is_plain_blur(one, other, blur)), ("recipe", True))
        for number in (1, 2, 6):
            left, right = latches_words(one, other, blur, number)
            self.assertTrue(left in one and right in other and is_word_for(blur[1], number, left))

    def test_order_free_machines(self):
        """Of two order-free machines latches tell exactly if caps do [20.2]."""
        some = random.Random(81)
        seen = {True: 0, False: 0}
        for _ in range(4000):
            letters = some.choice(["a", "ab"])
            one, other = (random_machine(some, letters, some.choice([2, 3, 4])) for _ in range(2))
            if some.random() < 0.5:
                other = other - one
            if len(other) <= 4 and is_order_free(one) and is_order_free(other) and one.ends and other.ends:
                if plain_words_of_maps(one, other, 64) is not None:
                    told = counts_blur(one, other, "caps") is None
                    self.assertIs(are_told_by_latches(one, other), told)
                    seen[told] += 1
        self.assertGreater(min(seen.values()), 20)


class Words(unittest.TestCase):
    def check_alike(self, boxes, number, left, right):
        for box, least in boxes:
            if least <= number:
                self.assertEqual([led_to(box, left, place) for place in range(len(box))],
                                 [led_to(box, right, place) for place in range(len(box))])

    def test_words_of_blurs(self):
        boxes = {letters: latch_boxes(letters) for letters in ("a", "ab", "abc")}
        made = 0
        for one, other in small_pairs(150, 804) + [(EVEN, ODD)]:
            blur = latches_blur(one, other)
            if blur is None or blur[0] == "word":
                continue
            for number in (1, 2, 3, 4, 5, 6):
                left, right = latches_words(one, other, blur, number)
                self.assertTrue(led_to(one, left) in one.ends and led_to(other, right) in other.ends)
                self.assertLessEqual(max(len(left), len(right)), 1000)
                self.check_alike(boxes[one.letters], number, left, right)
                if len(left) + len(right) < 120:
                    self.assertTrue(is_word_for(blur[1], number, left) and is_word_for(blur[1], number, right))
                made += 1
        self.assertGreater(made, 150)
        self.assertGreater(sum(2 <= least <= 3 for _, least in boxes["ab"]), 10)

    def test_words_for_maps(self):
        some = random.Random(82)
        boxes = {letters: latch_boxes(letters) for letters in ("a", "ab")}
        many = 0
        for one, other in small_pairs(90, 805, most=30, alphabets=("a", "ab")) + [(EVEN, ODD)] * 5:
            recipe = random_recipe(some, one.letters, some.choice((1, 2, 3, 4)))
            if some.random() < 0.7:
                left, right = ("".join(some.choices(one.letters, k=size)) for size in (1, some.randint(1, 3)))
                recipe = (("word", left), ("often", 0), ("word", right), ("often", 2), ("both", 3, 1))
            cloud = plain_clouds(one, other, recipe)[-1]
            for number in (1, 2, 3, 6):
                words = []
                for made in cloud:
                    try:
                        words.append(latch_word(one, other, recipe, made, number))
                    except TooMany as found:
                        self.assertEqual((found.limit, number > 2), (100000, True))
                        break
                    self.assertEqual(plain_map(one, other, words[-1]), made)
                    if len(words[-1]) < 60:
                        self.assertTrue(is_word_for(recipe, number, words[-1]))
                for word in words[1:]:
                    self.check_alike(boxes[one.letters], number, words[0], word)
                    many += 1
        self.assertGreater(many, 50)

    def test_words_of_both(self):
        for number in range(1, 7):
            self.assertEqual(latches_words(SOME, CLOSES, ("word", "ba"), number), ("ba", "ba"))
            self.assertEqual(latches_words(SOME, CLOSES, ("word", "a" * 400), number), ("a" * 400, "a" * 400))
        # A word of both is judged and returned also where words make many maps.
        self.assertEqual(latches_words(tail(64), tail(64), ("word", "a" * 63), 2), ("a" * 63,) * 2)

    def test_recipes_over_many_maps(self):
        """Words for recipes are made also where words make more than sixty-four maps."""
        one, other = circle(8), tail(100)
        recipe = (("word", "a"), ("often", 0))
        made = plain_map(one, other, "a" * 104)
        self.assertEqual(latch_word(one, other, recipe, made, 6), "a" * 104)

    def test_as_many_letters_as_may_be(self):
        self.assertEqual((MAX_LENGTH, MAX_NUMBER), (100000, 6))
        full = Machine("a", ((0,),), (0,))
        made = ((0,), (0,))
        # Five times fifty letters, and so on; the number 1 does not add to it.
        steps = [("word", "a" * 50), ("word", "a")]
        last = 0
        for times in (5, 5, 5, 4, 2, 2):
            first = last
            for _ in range(times - 1):
                steps.append(("both", last, first))
                last = len(steps) - 1
        self.assertEqual(latch_word(full, full, tuple(steps), made, 1), "a" * 100000)
        check_error(self, latch_word, (full, full, tuple(steps) + (("both", last, 1),), made, 1), TooMany, "limit",
                    100000)
        self.assertEqual(latch_word(full, full, tuple(steps) + (("often", last),), made, 1), "a" * 100000)
        blur = ("recipe", tuple(steps))
        self.assertEqual(latches_words(full, full, blur, 6), ("a" * 100000,) * 2)
        for call, rest in ((latch_word, (tuple(steps) + (("often", last),), made, 2)),
                           (latches_words, (("recipe", tuple(steps) + (("both", last, 1),)), 1))):
            check_error(self, call, (full, full, *rest), TooMany, "limit", 100000)

    def test_deep_recipes(self):
        deep = (("word", "a"),) + tuple(("often", at) for at in range(399))
        for number, depth in ((2, 17), (3, 11), (6, 7)):
            for call in (lambda steps: latches_words(EVEN, ODD, ("recipe", steps), number),
                         lambda steps: latch_word(EVEN, ODD, steps, plain_map(EVEN, ODD, "a"), number)):
                check_error(self, call, (deep[:depth + 1],), TooMany, "limit", 100000)
                check_error(self, call, (deep,), TooMany, "limit", 100000)
        left, right = latches_words(EVEN, ODD, ("recipe", deep), 1)
        self.assertTrue(left in EVEN and right in ODD)
        # Of the empty word there can be as many as there should.
        empty = (("word", ""),) + tuple(("both", at, at) for at in range(200)) + (("often", 200), ("often", 201))
        self.assertEqual(latch_word(EVEN, ODD, empty, plain_map(EVEN, ODD, ""), 6), "")

    def test_steps_that_are_not_needed(self):
        """A step of which the last cloud is not made does not make words longer."""
        deep = (("word", "a"),) + tuple(("often", at) for at in range(20)) + (("often", 0),)
        left, right = latches_words(EVEN, ODD, ("recipe", deep), 6)
        self.assertEqual((len(left), len(right)), (6, 7))


class Bounds(unittest.TestCase):
    def test_time(self):
        begin = time.perf_counter()
        refused = 0
        for one, other in some_pairs(60, 806, states=(4,), alphabets=("abc",)):
            for call in (greatest_clouds, latches_blur, latches_clear, are_told_by_latches):
                try:
                    call(one, other)
                except TooMany as found:
                    self.assertEqual(found.limit, 64)
                    refused += 1
        self.assertGreater(refused, 40)
        self.assertLess(time.perf_counter() - begin, 30)
        begin = time.perf_counter()
        turn, flip, still = (1, 2, 3, 0), (0, 3, 2, 1), (0, 1, 2, 3)
        one, other = (Machine("abc", tuple(zip(*columns)), (0,)) for columns in
                      ((turn, flip, still), (turn, flip, turn)))
        greatest_clouds(one, other)
        one = Machine("abc", ((1, 0, 0), (2, 1, 0), (3, 2, 0), (3, 3, 0)), (3,))
        greatest_clouds(one, of_words("abc", ("a", "bc")))
        self.assertLess(time.perf_counter() - begin, 10)


class WrongArguments(unittest.TestCase):
    def test_wrong_arguments(self):
        one, other = Argument(EVEN, is_machine, InvalidMachine), Argument(ODD, is_machine, InvalidMachine)
        for call in (greatest_clouds, latches_blur, latches_clear, are_told_by_latches):
            check_arguments(self, call, [one, other])
        blur = Argument(("recipe", STEPS), lambda value: is_plain_blur(EVEN, ODD, value), InvalidOperation)
        number = Argument(3, number_from(1, 6), InvalidNumber, "value")
        check_arguments(self, latches_words, [one, other, blur, number])
        recipe = Argument(STEPS, lambda value: is_plain_recipe("ab", value), InvalidOperation)
        cloud = plain_clouds(EVEN, ODD, STEPS)[-1]
        made = Argument(cloud[0], lambda value: repr(value) in map(repr, cloud), InvalidOperation)
        check_arguments(self, latch_word, [one, other, recipe, made, number])

    def test_errors_in_their_order(self):
        short = Machine("a", ((0,), (0,)), (0,))
        long_one = tail(65)
        for call in (greatest_clouds, latches_blur, latches_clear, are_told_by_latches):
            check_error(self, call, (EVEN, long_one), InvalidOperation)
            check_error(self, call, (None, long_one), InvalidMachine)
        check_error(self, latches_words, (EVEN, short, ("word", ""), 3), InvalidOperation)
        check_error(self, latches_words, (EVEN, ODD, ("recipe", STEPS[:1]), 7), InvalidOperation)
        deep = (("word", "a"),) + tuple(("often", at) for at in range(30))
        check_error(self, latches_words, (EVEN, ODD, ("recipe", deep), 7), InvalidNumber, "value", 7)
        made = plain_map(EVEN, ODD, "a")
        check_error(self, latch_word, (EVEN, short, STEPS, made, 3), InvalidOperation)
        check_error(self, latch_word, (EVEN, ODD, STEPS, ((0, 0), (0, 0)), 9), InvalidOperation)
        check_error(self, latch_word, (EVEN, ODD, STEPS[:1], plain_map(EVEN, ODD, ""), 9), InvalidOperation)
        check_error(self, latch_word, (EVEN, ODD, deep, made, 0), InvalidNumber, "value", 0)
        for value in VALUES:
            self.assertIs(is_latches_blur(EVEN, ODD, value), is_plain_blur(EVEN, ODD, value))


if __name__ == "__main__":
    unittest.main()
