"""Clouds one behind the other, often, recipes, latches blurs and clear papers, against plain readings."""

import itertools
import random
import time
import unittest

from plain import (CLOSES, EVEN, NONE, ODD, OPENS, SOME, VALUES, Argument, check_arguments, check_error, is_machine,
                   is_plain_number, is_plain_word, some_pairs, words_up_to)
from test_images import circle, is_plain_map, plain_behind, plain_map, plain_words_of_maps, random_map, tail
from watchkinds.base.machines import Machine
from watchkinds.errors import InvalidMachine, InvalidOperation
from watchkinds.latches.papers import (cloud_behind, is_bad_cloud, is_cloud, is_latches_blur, is_latches_clear,
                                       is_recipe, often, often_number, recipe_clouds)


def plain_product(left, right):
    return tuple(sorted({plain_behind(one, other) for one in left for other in right}))


def plain_often(cloud):
    """The cloud often and its number, read as [17.1] tells it."""
    powers = [None, cloud]
    for number in itertools.count(1):
        while len(powers) <= 2 * number + 1:
            powers.append(plain_product(powers[-1], cloud))
        if powers[number] == powers[2 * number]:
            return tuple(sorted(set(powers[number]) | set(powers[number + 1]))), number


def is_plain_bad(one, other, cloud):
    return any(made[0][0] in one.ends for made in cloud) and any(made[1][0] in other.ends for made in cloud)


def is_plain_cloud(one, other, value):
    if type(value) is not tuple or not value or not all(is_plain_map(one, other, made) for made in value):
        return False
    return list(value) == sorted(set(value))


def is_plain_recipe(letters, value):
    if type(value) is not tuple or not 1 <= len(value) <= 400:
        return False
    for at, step in enumerate(value):
        if type(step) is not tuple or not step or type(step[0]) is not str:
            return False
        if step[0] == "word" and len(step) == 2:
            if not is_plain_word(step[1]) or len(step[1]) > 60 or not set(step[1]) <= set(letters):
                return False
        elif (step[0], len(step)) in (("both", 3), ("often", 2)):
            if not all(is_plain_number(index, 0, at - 1) for index in step[1:]):
                return False
        else:
            return False
    return True


def plain_clouds(one, other, recipe):
    clouds = []
    for step in recipe:
        if step[0] == "word":
            clouds.append((plain_map(one, other, step[1]),))
        elif step[0] == "both":
            clouds.append(plain_product(clouds[step[1]], clouds[step[2]]))
        else:
            clouds.append(plain_often(clouds[step[1]])[0])
    return tuple(clouds)


def is_plain_blur(one, other, value):
    if type(value) is not tuple or len(value) != 2 or type(value[0]) is not str:
        return False
    if value[0] == "word":
        return value[1] in one and value[1] in other
    if value[0] != "recipe" or not is_plain_recipe(one.letters, value[1]):
        return False
    return is_plain_bad(one, other, plain_clouds(one, other, value[1])[-1])


def is_plain_clear(one, other, value):
    if type(value) is not tuple or not all(is_plain_cloud(one, other, cloud) for cloud in value):
        return False
    if list(value) != sorted(set(value)) or any(is_plain_bad(one, other, cloud) for cloud in value):
        return False
    needed = [(plain_map(one, other, word),) for word in ["", *one.letters]]
    needed += [plain_product(left, right) for left in value for right in value]
    needed += [plain_often(cloud)[0] for cloud in value]
    return all(any(set(cloud) <= set(held) for held in value) for cloud in needed)


def random_cloud(some, one, other, most):
    return tuple(sorted({random_map(some, one, other) for _ in range(some.randint(1, most))}))


def random_recipe(some, letters, steps):
    recipe = []
    for at in range(steps):
        kind = some.choice(("word", "both", "often")) if at else "word"
        if kind == "word":
            recipe.append(("word", "".join(some.choices(letters, k=some.randint(0, 4)))))
        else:
            recipe.append((kind,) + tuple(some.randrange(at) for _ in range(2 if kind == "both" else 1)))
    return tuple(recipe)


class Clouds(unittest.TestCase):
    def test_which_values_are_clouds(self):
        some = random.Random(71)
        for one, other in some_pairs(20, 701, states=(1, 2, 3)):
            for cloud in [random_cloud(some, one, other, 5) for _ in range(8)]:
                self.assertIs(is_cloud(one, other, cloud), True)
                first = cloud[0]
                near = [cloud[::-1], cloud + cloud[-1:], list(cloud), (), cloud + (None,), cloud[:-1] + (first,)]
                near += [(first[::-1],), (first[:1],), ((first[0], first[1] + (0,)),), (list(first),), first]
                near += [((first[0], first[1][:-1] + (value,)),) for value in (-1, len(other), True, None)]
                for value in near:
                    self.assertIs(is_cloud(one, other, value), is_plain_cloud(one, other, value), repr(value))
        for value in VALUES:
            for made in (value, (value,), (plain_map(EVEN, ODD, "a"), value)):
                self.assertIs(is_cloud(EVEN, ODD, made), is_plain_cloud(EVEN, ODD, made), repr(made))

    def test_one_behind_the_other(self):
        some = random.Random(72)
        for one, other in some_pairs(40, 702, states=(1, 2, 3, 4)):
            left, right = (random_cloud(some, one, other, 8) for _ in range(2))
            self.assertEqual(cloud_behind(one, other, left, right), plain_product(left, right))
            self.assertEqual(cloud_behind(one, other, left, left), plain_product(left, left))

    def test_often_and_its_number(self):
        some = random.Random(73)
        numbers = set()
        for one, other in some_pairs(60, 703):
            clouds = [random_cloud(some, one, other, most) for most in (1, 2, 4)]
            clouds += [tuple(sorted({plain_map(one, other, word) for word in words}))
                       for words in (one.letters, ["a"], ["", "a"], words_up_to(one.letters, 2)[1:])]
            for cloud in clouds:
                expected = plain_often(cloud)
                self.assertEqual((often(one, other, cloud), often_number(one, other, cloud)), expected)
                numbers.add(expected[1])
        self.assertGreaterEqual(numbers, {1, 2, 3, 4})
        for many in (1, 2, 5, 12, 16):
            # A ring that is gone round once, and a tail that has been left behind at the first time.
            made = (plain_map(circle(many), tail(7), "a"),)
            self.assertEqual(often_number(circle(many), tail(7), made), many * -(-7 // many))
            self.assertEqual(often(circle(many), tail(7), made), plain_often(made)[0])

    def test_bad_clouds(self):
        some = random.Random(74)
        seen = {True: 0, False: 0}
        for one, other in some_pairs(60, 704):
            for most in (1, 2, 6):
                cloud = random_cloud(some, one, other, most)
                bad = is_bad_cloud(one, other, cloud)
                self.assertIs(bad, is_plain_bad(one, other, cloud))
                seen[bad] += 1
        self.assertGreater(min(seen.values()), 30)

    def test_sixty_four_maps_and_one_more(self):
        for one, other, maps in self.many_maps():
            most, over = tuple(sorted(maps[:64])), tuple(sorted(maps[:65]))
            self.assertEqual((len(most), len(over)), (64, 65))
            self.assertEqual((is_cloud(one, other, most), is_cloud(one, other, over)), (True, True))
            few = most[:2]
            self.assertEqual(cloud_behind(one, other, most, few), plain_product(most, few))
            self.assertEqual(often(one, other, most), plain_often(most)[0])
            self.assertEqual(often_number(one, other, most), plain_often(most)[1])
            self.assertIs(is_bad_cloud(one, other, most), is_plain_bad(one, other, most))
            for call in (often, often_number, is_bad_cloud):
                check_error(self, call, (one, other, over), InvalidOperation)
            check_error(self, cloud_behind, (one, other, over, few), InvalidOperation)
            check_error(self, cloud_behind, (one, other, few, over), InvalidOperation)

    def many_maps(self):
        """Pairs of machines, each with a list of more than 64 maps."""
        some = random.Random(75)
        three = Machine("ab", ((1, 0), (2, 1), (0, 0)), (0,))
        everything = [(left, right) for left in itertools.product(range(3), repeat=3)
                      for right in itertools.product(range(2), repeat=2)]
        yield three, EVEN, some.sample(everything, 65)
        four = Machine("ab", ((1, 0), (2, 1), (3, 2), (0, 0)), (0, 1))
        one = Machine("ab", ((0, 0),), (0,))
        yield four, one, [(left, (0,)) for left in itertools.product(range(4), repeat=4)]


class Recipes(unittest.TestCase):
    def test_clouds_of_recipes(self):
        some = random.Random(76)
        bad = 0
        pairs = some_pairs(60, 705, states=(1, 2, 3), alphabets=("a", "ab")) + [(EVEN, ODD), (ODD, EVEN)] * 15
        for one, other in pairs:
            recipe = random_recipe(some, one.letters, some.choice((1, 2, 4, 7, 8)))
            expected = plain_clouds(one, other, recipe)
            self.assertEqual(recipe_clouds(one, other, recipe), expected)
            self.assertIs(is_recipe(one, other, recipe), True)
            blur = ("recipe", recipe)
            self.assertIs(is_latches_blur(one, other, blur), is_plain_bad(one, other, expected[-1]))
            bad += is_plain_bad(one, other, expected[-1])
        self.assertGreater(bad, 5)

    def near(self, recipe):
        found = [list(recipe), recipe + (None,), (), recipe + (("word",),), recipe + (("word", "a", "b"),)]
        found += [recipe + (("words", "a"),), recipe + (("word", "z"),), recipe + (("word", "A"),), recipe[::-1]]
        for at, step in enumerate(recipe):
            indices = [(kind, *more) for kind in ("both", "often") for size in (0, 1, 2, 3)
                       for more in [(at,) * size, (at - 1,) * size, (-1,) * size, (True,) * size, (None,) * size]]
            changed = indices + [list(step), step[:-1], step + step[-1:], (None,) + step[1:], ["word", "a"], ()]
            found += [recipe[:at] + (made,) + recipe[at + 1:] for made in changed]
            found.append(recipe[:at] + recipe[at + 1:])
        return found

    def test_which_values_are_recipes(self):
        some = random.Random(77)
        right = wrong = 0
        for one, other in [(EVEN, ODD), (SOME, CLOSES), (OPENS, NONE)]:
            for steps in (1, 2, 3, 5):
                recipe = random_recipe(some, "ab", steps)
                for value in self.near(recipe):
                    expected = is_plain_recipe("ab", value)
                    self.assertIs(is_recipe(one, other, value), expected, repr(value))
                    self.assertIs(is_latches_blur(one, other, ("recipe", value)),
                                  is_plain_blur(one, other, ("recipe", value)), repr(value))
                    if not expected:
                        check_error(self, recipe_clouds, (one, other, value), InvalidOperation)
                    right, wrong = right + expected, wrong + (not expected)
        self.assertGreater(right, 50)
        self.assertGreater(wrong, 300)

    def test_any_value_is_judged(self):
        for value in VALUES:
            for made in (value, (value,), (("word", value),), (("word", "a"), value), (("word", "a"), ("often", value)),
                         (("word", "a"), ("both", 0, value)), (("word", "a"), (value, 0))):
                self.assertIs(is_recipe(EVEN, ODD, made), is_plain_recipe("ab", made), repr(made))
            for made in (value, ("recipe", value), ("word", value), (value, (("word", "a"), ("often", 0))),
                         ("recipe", (("word", "a"), ("often", 0)), value)):
                self.assertIs(is_latches_blur(EVEN, ODD, made), is_plain_blur(EVEN, ODD, made), repr(made))
                self.assertIs(is_latches_blur(SOME, CLOSES, made), is_plain_blur(SOME, CLOSES, made), repr(made))

    def test_long_words_and_many_steps(self):
        for size in (0, 59, 60, 61, 120):
            self.assertIs(is_recipe(EVEN, ODD, (("word", "ab" * (size // 2) + "a" * (size % 2)),)), size <= 60)
        for steps in (1, 399, 400, 401):
            recipe = (("word", "a"),) + tuple(("often", at) for at in range(steps - 1))
            self.assertIs(is_recipe(EVEN, ODD, recipe), steps <= 400)
            if steps <= 400:
                clouds = recipe_clouds(EVEN, ODD, recipe)
                self.assertEqual(clouds[1:], plain_clouds(EVEN, ODD, (("word", "a"), ("often", 0)))[1:] * (steps - 1))
                self.assertIs(is_latches_blur(EVEN, ODD, ("recipe", recipe)), steps > 1)
            else:
                check_error(self, recipe_clouds, (EVEN, ODD, recipe), InvalidOperation)
                self.assertIs(is_latches_blur(EVEN, ODD, ("recipe", recipe)), False)
        doubled = (("word", "a"),) + tuple(("both", at, at) for at in range(399))
        self.assertEqual(recipe_clouds(EVEN, ODD, doubled)[-1], (plain_map(EVEN, ODD, ""),))


class ClearPapers(unittest.TestCase):
    def papers(self):
        """Pairs of machines, each with the paper of the single maps of all words."""
        for one, other in some_pairs(60, 706, states=(1, 2, 3)) + [(SOME, NONE), (CLOSES, OPENS - CLOSES)]:
            maps = plain_words_of_maps(one, other, 14)
            if maps is not None:
                yield one, other, tuple(sorted((made,) for made in maps))

    def near(self, one, other, paper):
        some = random.Random(78)
        found = [paper[1:], paper[:-1], paper[::-1], list(paper), paper + paper[-1:], (), paper + ((),)]
        found += [tuple(sorted(set(paper) | {random_cloud(some, one, other, 3)})) for _ in range(3)]
        whole = tuple(sorted(made for cloud in paper for made in cloud))
        found += [(whole,), tuple(sorted(set(paper) | {whole}))]
        for at in range(len(paper)):
            found.append(paper[:at] + paper[at + 1:])
            joined = tuple(sorted(set(paper[at] + some.choice(paper))))
            found.append(tuple(sorted(set(paper[:at] + paper[at + 1:]) | {joined})))
            found.append(paper[:at] + (list(paper[at]),) + paper[at + 1:])
        return found

    def test_papers_and_such_near_them(self):
        right = wrong = 0
        for one, other, paper in self.papers():
            for value in [paper] + self.near(one, other, paper):
                expected = is_plain_clear(one, other, value)
                self.assertIs(is_latches_clear(one, other, value), expected, repr(value))
                right, wrong = right + expected, wrong + (not expected)
        self.assertGreater(right, 40)
        self.assertGreater(wrong, 300)

    def test_more_clouds_than_needed(self):
        """A paper with all parts of its clouds is one, too."""
        one, other = Machine("ab", ((1, 0), (0, 1)), (0,)), Machine("ab", ((0, 0),), ())
        maps = sorted(plain_words_of_maps(one, other))
        clouds = [cloud for size in (1, 2) for cloud in itertools.combinations(maps, size)]
        self.assertIs(is_latches_clear(one, other, (tuple(maps),)), True)
        self.assertIs(is_latches_clear(one, other, tuple(sorted(clouds))), True)
        self.assertIs(is_latches_clear(one, other, tuple(sorted(clouds[:2]))), False)
        # Maps that no word makes can stand in a paper as well.
        more = tuple(sorted(maps + [((0, 0), (0,)), ((1, 1), (0,))]))
        self.assertIs(is_latches_clear(one, other, (more,)), is_plain_clear(one, other, (more,)))

    def test_any_value_is_judged(self):
        good = ((plain_map(SOME, NONE, ""),), (plain_map(SOME, NONE, "a"),))
        self.assertIs(is_latches_clear(SOME, NONE, good), True)
        for value in VALUES:
            for made in (value, (value,), good[:1] + (value,), (value,) + good[1:], ((value,),), good + (value,)):
                self.assertIs(is_latches_clear(SOME, NONE, made), is_plain_clear(SOME, NONE, made), repr(made))


class WrongArguments(unittest.TestCase):
    def test_wrong_arguments(self):
        one, other = Argument(EVEN, is_machine, InvalidMachine), Argument(OPENS, is_machine, InvalidMachine)
        cloud = Argument((plain_map(EVEN, OPENS, "a"),), lambda value: is_plain_cloud(EVEN, OPENS, value),
                         InvalidOperation)
        recipe = Argument((("word", "a"), ("often", 0)), lambda value: is_plain_recipe("ab", value), InvalidOperation)
        for call in (is_cloud, is_recipe, is_latches_blur, is_latches_clear):
            check_arguments(self, lambda a, b, call=call: call(a, b, None), [one, other])
        check_arguments(self, cloud_behind, [one, other, cloud, cloud])
        for call in (often, often_number, is_bad_cloud):
            check_arguments(self, call, [one, other, cloud])
        check_arguments(self, recipe_clouds, [one, other, recipe])

    def test_unlike_letters(self):
        short = Machine("a", ((0,), (0,)), (0,))
        cloud = (((0, 1), (0, 1)),)
        for call, rest in ((is_cloud, (cloud,)), (is_recipe, ((("word", "a"),),)), (is_latches_blur, (("word", ""),)),
                           (is_latches_clear, ((cloud,),)), (cloud_behind, (cloud, cloud)), (often, (cloud,)),
                           (often_number, (cloud,)), (is_bad_cloud, (cloud,)), (recipe_clouds, ((("word", "a"),),))):
            check_error(self, call, (EVEN, short, *rest), InvalidOperation)

    def test_time(self):
        some = random.Random(79)
        begin = time.perf_counter()
        for one, other in some_pairs(6, 707, states=(4,), alphabets=("abc",)):
            cloud = tuple(sorted({plain_map(one, other, word) for word in words_up_to("abc", 3)}))
            often(one, other, cloud)
            recipe = random_recipe(some, "abc", 40)
            is_latches_blur(one, other, ("recipe", recipe))
            recipe_clouds(one, other, recipe)
        self.assertLess(time.perf_counter() - begin, 20)


if __name__ == "__main__":
    unittest.main()
