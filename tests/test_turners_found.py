"""What turners tell: null pairs and walks, blurs, clear papers, shadows, turners with few places."""

import itertools
import random
import time
import unittest

from plain import (CLOSES, EVEN, NONE, ODD, OPENS, SOME, SWITCH, VALUES, Argument, all_boxes, cancelled,
                   check_arguments, check_error, check_just_one, check_small, is_machine, is_plain_number,
                   is_plain_walk, is_plain_word, language, led_to, number_from, plain_steps, random_machine,
                   random_turner, some_machines, some_pairs, words_up_to)
from watchkinds.base.joined import chained, is_order_free, of_words, repeated
from watchkinds.base.machines import Machine
from watchkinds.boxes.sights import places, tells_apart
from watchkinds.counts.finding import counts_blur
from watchkinds.errors import InvalidMachine, InvalidNumber, InvalidOperation, InvalidWord
from watchkinds.turners import finding
from watchkinds.turners.finding import (MAX_TRIED, are_told_by_turners, is_in_shadow, is_turners_clear, null_pairs,
                                        null_walk, shadow, turner_for, turners_blur, turners_clear)
from watchkinds.turners.walks import is_turners_blur, turners_words

MANY = Machine("ab", ((1, 3), (1, 2), (3, 3), (3, 3)), (2,))
ONCE = Machine("ab", ((2, 1), (2, 2), (2, 2)), (1,))


def plain_nulls(machine):
    """The least set of [15.1], made plainly."""
    states = range(len(machine.table))
    steps = plain_steps(machine)
    found = {(state, state) for state in states}
    size = 0
    while len(found) > size:
        size = len(found)
        found |= {(one, last) for one, other in found for also, last in found if other == also}
        found |= {(one, last) for one, sign, other in steps for also, back, last in steps
                  if (other, also) in found and back == sign.swapcase()}
    return found


def plain_joint(one, other, first, second):
    """The least third tuple of a clear paper, of two others."""
    steps = [plain_steps(machine) for machine in (one, other)]
    found = {(0, 0)}
    queue = [(0, 0)]
    for left, right in queue:
        after = {(state, right) for ahead, state in first if ahead == left}
        after |= {(left, state) for ahead, state in second if ahead == right}
        after |= {(to, too) for state, sign, to in steps[0] if state == left
                  for also, same, too in steps[1] if also == right and same == sign}
        queue.extend(sorted(after - found))
        found |= after
    return found


def is_plain_clear(one, other, value):
    if type(value) is not tuple or len(value) != 3:
        return False
    sizes = ((one, one), (other, other), (one, other))
    for part, (left, right) in zip(value, sizes):
        if type(part) is not tuple:
            return False
        for pair in part:
            if type(pair) is not tuple or len(pair) != 2:
                return False
            if not is_plain_number(pair[0], 0, len(left) - 1) or not is_plain_number(pair[1], 0, len(right) - 1):
                return False
        if list(part) != sorted(set(part)):
            return False
    for machine, part in ((one, set(value[0])), (other, set(value[1]))):
        steps = plain_steps(machine)
        if not {(state, state) for state in range(len(machine))} <= part:
            return False
        if not {(p, r) for p, q in part for also, r in part if also == q} <= part:
            return False
        if not {(p, s) for p, sign, q in steps for r, back, s in steps
                if (q, r) in part and back == sign.swapcase()} <= part:
            return False
    joint = set(value[2])
    steps = [plain_steps(machine) for machine in (one, other)]
    if (0, 0) not in joint or any(p in one.ends and q in other.ends for p, q in joint):
        return False
    return ({(r, q) for p, q in joint for also, r in value[0] if also == p} <= joint
            and {(p, r) for p, q in joint for also, r in value[1] if also == q} <= joint
            and {(r, s) for p, q in joint for also, sign, r in steps[0] if also == p
                 for too, same, s in steps[1] if too == q and same == sign} <= joint)


def all_turners(letters, places):
    return [box for box in all_boxes(letters, places)
            if all(len({row[column] for row in box.table}) == places for column in range(len(letters)))]


class Nulls(unittest.TestCase):
    def test_null_pairs_against_the_least_set(self):
        machines = some_machines("a", 20, 501) + some_machines("ab", 40, 502) + some_machines("abc", 30, 503)
        machines += [machine for pair in some_pairs(30, 504) for machine in pair] + [MANY, ONCE]
        more = 0
        for machine in machines:
            expected = tuple(sorted(plain_nulls(machine)))
            self.assertEqual(null_pairs(machine), expected)
            more += len(expected) > len(machine)
        self.assertGreater(more, 40)
        self.assertEqual(null_pairs(Machine("a", ((0,),))), ((0, 0),))
        self.assertEqual(null_pairs(EVEN), ((0, 0), (1, 1)))
        self.assertEqual(null_pairs(SOME), ((0, 0), (0, 1), (1, 1)))
        # In a knot a word that leads two states to one is a way from the one to the other.
        self.assertEqual(null_pairs(CLOSES), ((0, 0), (0, 1), (1, 0), (1, 1)))

    def test_null_walks(self):
        some = random.Random(51)
        for machine in some_machines("ab", 40, 505) + some_machines("abc", 40, 506) + [MANY, ONCE]:
            pairs = plain_nulls(machine)
            for one, other in itertools.product(range(len(machine)), repeat=2):
                walk = null_walk(machine, one, other)
                if (one, other) not in pairs:
                    self.assertIsNone(walk)
                    continue
                self.assertTrue(is_plain_walk(machine, walk))
                self.assertEqual(cancelled(some, "".join(sign for _, sign, _ in walk)), "")
                self.assertEqual(((walk or ((one, "", one),))[0][0], (walk or ((one, "", one),))[-1][2]), (one, other))
                check_small(self, walk)

    def test_greater_machines(self):
        machine = chained(repeated(of_words("ab", ("aab", "bab"))), repeated(of_words("ab", ("abb", "aaba"))))
        self.assertGreater(len(machine), 8)
        self.assertEqual(null_pairs(machine), tuple(sorted(plain_nulls(machine))))
        some = random.Random(52)
        for one, other in null_pairs(machine):
            walk = null_walk(machine, one, other)
            self.assertTrue(is_plain_walk(machine, walk))
            self.assertEqual(cancelled(some, "".join(sign for _, sign, _ in walk)), "")


class Papers(unittest.TestCase):
    def pairs(self):
        found = some_pairs(150, 507)
        machines = some_machines("ab", 60, 508) + some_machines("abc", 60, 509) + some_machines("a", 40, 510)
        found += [pair for pair in zip(machines[::2], machines[1::2])]
        return found + [(EVEN, ODD), (SOME, NONE), (OPENS, ~OPENS), (CLOSES, ~CLOSES), (MANY, ONCE), (EVEN, EVEN)]

    def test_just_one_is_there(self):
        told = blurred = 0
        for one, other in self.pairs():
            blur, paper = turners_blur(one, other), turners_clear(one, other)
            if check_just_one(self, one, other, blur, paper, are_told_by_turners(one, other)):
                self.assertTrue(is_turners_clear(one, other, paper) is is_plain_clear(one, other, paper) is True)
                told += bool(one.ends and other.ends)
            else:
                self.assertIs(is_turners_blur(one, other, blur), True)
                blurred += blur[0] == "walks"
                least = tuple(tuple(sorted(plain_nulls(machine))) for machine in (one, other))
                joint = plain_joint(one, other, *least)
                self.assertTrue(any(p in one.ends and q in other.ends for p, q in joint))
        self.assertGreater(told, 50)
        self.assertGreater(blurred, 40)

    def test_blurs_lead_to_words(self):
        some = random.Random(53)
        made = 0
        for one, other in self.pairs():
            blur = turners_blur(one, other)
            if blur is None or blur[0] == "word":
                continue
            for number in (1, 2, 3, 4, 6):
                left, right = turners_words(one, other, blur, number)
                self.assertTrue(led_to(one, left) in one.ends and led_to(other, right) in other.ends)
                if number in (2, 6):
                    # Words of turners with two places go round in two steps, of those with three places in six.
                    box = random_turner(some, one.letters, 2 if number == 2 else 3)
                    self.assertEqual(led_to(box, left), led_to(box, right))
                made += 1
        self.assertGreater(made, 200)

    def check_paper(self, one, other, value):
        expected = is_plain_clear(one, other, value)
        self.assertIs(is_turners_clear(one, other, value), expected, repr(value))
        return expected

    def test_papers_and_such_near_them(self):
        some = random.Random(54)
        right = wrong = 0
        for one, other in self.pairs()[:90]:
            paper = turners_clear(one, other)
            if paper is None:
                least = tuple(tuple(sorted(plain_nulls(machine))) for machine in (one, other))
                made = [least + (tuple(sorted(plain_joint(one, other, *least))),)]
            else:
                made = [paper]
            first, second, joint = made[0]
            everything = [tuple(itertools.product(range(len(left)), range(len(right))))
                          for left, right in ((one, one), (other, other), (one, other))]
            for at, part in enumerate(made[0]):
                for pair in everything[at]:
                    other_part = tuple(sorted(set(part) ^ {pair}))
                    made.append(made[0][:at] + (other_part,) + made[0][at + 1:])
                    if pair not in part and at < 2:
                        # With a pair too many, and all that comes of it, a paper can be right.
                        wider = [first, second]
                        wider[at] = self.closed((one, other)[at], set(part) | {pair})
                        made.append((*wider, tuple(sorted(plain_joint(one, other, *wider)))))
                made.append(made[0][:at] + (part[::-1],) + made[0][at + 1:])
                made.append(made[0][:at] + (list(part),) + made[0][at + 1:])
                made.append(made[0][:at] + (part + part[-1:],) + made[0][at + 1:])
            made += [made[0][:2], made[0] + ((),), list(made[0]), (first, second, ()), ((), (), ((0, 0),))]
            for value in made:
                if self.check_paper(one, other, value):
                    right += 1
                else:
                    wrong += 1
        self.assertGreater(right, 250)
        self.assertGreater(wrong, 1000)

    def closed(self, machine, found):
        steps = plain_steps(machine)
        size = 0
        while len(found) > size:
            size = len(found)
            found = found | {(p, r) for p, q in found for also, r in found if also == q}
            found = found | {(p, s) for p, sign, q in steps for r, back, s in steps
                             if (q, r) in found and back == sign.swapcase()}
        return tuple(sorted(found))

    def test_any_value_is_judged(self):
        paper = turners_clear(EVEN, ODD)
        for value in VALUES:
            for made in (value, (value,) + paper[1:], paper[:1] + (value,) + paper[2:], paper[:2] + (value,),
                         ((value,) + paper[0],) + paper[1:], paper[:2] + (((value, 0),) + paper[2],)):
                self.check_paper(EVEN, ODD, made)

    def test_order_free_machines(self):
        """Of two order-free machines turners tell exactly if sums do [20.2]."""
        some = random.Random(55)
        seen = {True: 0, False: 0}
        for _ in range(4000):
            letters = some.choice(["a", "ab"])
            one, other = (random_machine(some, letters, some.choice([2, 3, 4])) for _ in range(2))
            if some.random() < 0.5:
                other = other - one
            if len(other) <= 4 and is_order_free(one) and is_order_free(other) and one.ends and other.ends:
                told = counts_blur(one, other, "sums") is None
                self.assertIs(are_told_by_turners(one, other), told)
                seen[told] += 1
        self.assertGreater(min(seen.values()), 20)


class Shadows(unittest.TestCase):
    def test_shadows_against_small_turners(self):
        """A word is in the shadow exactly if each turner leads it where it leads some word of the machine [15.4]."""
        turners = [box for places in (1, 2, 3) for box in all_turners("ab", places)]
        beside = shown = 0
        for machine in some_machines("ab", 30, 511) + [MANY, ONCE, EVEN, CLOSES, SOME, OPENS]:
            seen = [set(places(machine, box)) for box in turners]
            for word in words_up_to("ab", 4):
                held = is_in_shadow(machine, word)
                able = all(led_to(box, word) in met for box, met in zip(turners, seen))
                if held:
                    self.assertTrue(able)
                    beside += word not in machine
                elif not able:
                    shown += 1
                else:
                    # Some greater turner tells the word from the machine.
                    self.assertIs(are_told_by_turners(of_words("ab", (word,)), machine), True)
        self.assertGreater(beside, 50)
        self.assertGreater(shown, 200)

    def test_words_of_the_machine_and_of_its_shadow(self):
        for machine in some_machines("ab", 16, 512) + some_machines("abc", 8, 513) + some_machines("a", 8, 514):
            found = list(shadow(machine, 4))
            self.assertEqual(found, [word for word in words_up_to(machine.letters, 4) if is_in_shadow(machine, word)])
            self.assertLessEqual(set(language(machine, 4)), set(found))
        self.assertEqual(len(list(shadow(Machine("abc", ((0, 0, 0),), (0,)), 6))), 1093)
        self.assertEqual(list(shadow(Machine("abc", ((0, 0, 0),)), 6)), [])
        self.assertEqual(list(shadow(EVEN, 0)), [""])

    def test_shadows_of_machines_that_are_told_apart(self):
        apart = 0
        for one, other in some_pairs(60, 515):
            common = set(shadow(one, 4)) & set(shadow(other, 4))
            if are_told_by_turners(one, other):
                self.assertEqual(common, set())
                apart += 1
        self.assertGreater(apart, 15)

    def test_shadows_without_a_word_in_common(self):
        """Machines need not be told apart though their shadows have no word in common: rows of both can be alike."""
        one = Machine("abc", ((2, 1, 2), (0, 0, 2), (2, 2, 2)), (1,))
        other = Machine("abc", ((0, 1, 0), (1, 1, 1)), (0,))
        self.assertEqual(set(shadow(one, 6)) & set(shadow(other, 6)), set())
        self.assertIs(are_told_by_turners(one, other), False)
        self.assertIs(is_turners_blur(one, other, ("walks", ((0, "A", 1),), ((0, "A", 0),))), True)


class Turners(unittest.TestCase):
    def test_as_few_places_as_any(self):
        sizes = {}
        for one, other in some_pairs(90, 516, states=(2, 3), alphabets=("a", "ab")) + [(MANY, ONCE), (EVEN, ODD)]:
            firsts = []
            for many in (1, 2, 3):
                firsts += [many] * any(tells_apart(one, other, box) for box in all_turners(one.letters, many))
            least = min(firsts, default=None)
            for most in (1, 2, 3, 4):
                box = turner_for(one, other, most)
                if least is not None and least <= most:
                    self.assertEqual((len(box), tells_apart(one, other, box)), (least, True))
                    self.assertIn(box, all_turners(one.letters, least))
                elif most <= 3:
                    self.assertIsNone(box)
                elif box is not None:
                    self.assertEqual((len(box), tells_apart(one, other, box)), (4, True))
            sizes[least] = sizes.get(least, 0) + 1
        self.assertGreaterEqual(set(sizes), {1, 2, 3, None})

    def test_four_places(self):
        one, other = Machine("a", ((1,), (2,), (3,), (0,)), (0,)), Machine("a", ((1,), (2,), (3,), (0,)), (1, 2, 3))
        box = turner_for(one, other, 4)
        self.assertEqual((len(box), tells_apart(one, other, box)), (4, True))
        self.assertIsNone(turner_for(one, other, 3))
        # Where more than four places are needed, none is found.
        five = repeated(of_words("a", ("aaaaa",)))
        self.assertIs(are_told_by_turners(five, ~five), True)
        self.assertIsNone(turner_for(five, ~five, 4))
        self.assertEqual(turner_for(EVEN, ODD, 4), SWITCH)
        self.assertEqual(len(turner_for(EVEN, Machine("ab", ((0, 0),)), 4)), 1)


class Bounds(unittest.TestCase):
    def test_time(self):
        some = random.Random(56)
        begin = time.perf_counter()
        machines = [random_machine(some, "abc", 4) for _ in range(20)]
        for one, other in zip(machines[::2], machines[1::2]):
            for call in (turners_blur, turners_clear, are_told_by_turners):
                call(one, other)
            null_pairs(one)
            list(shadow(one, 6))
        self.assertLess(time.perf_counter() - begin, 20)
        # Told apart, but by no turner with at most four places: all of them are tried.
        ring = Machine("abc", ((1, 0, 0), (2, 1, 1), (3, 2, 2), (0, 3, 3)), (0,))
        many = chained(ring, of_words("abc", ("b",))) & repeated(of_words("abc", ("aaaaa", "b", "c")))
        few = repeated(of_words("abc", ("aaaaa", "b", "c"))) - many
        begin = time.perf_counter()
        turner_for(many, few, 4)
        turner_for(ring, ~ring, 4)
        self.assertLess(time.perf_counter() - begin, 10)


class WrongArguments(unittest.TestCase):
    def test_wrong_arguments(self):
        machine = Argument(MANY, is_machine, InvalidMachine)
        other = Argument(ONCE, is_machine, InvalidMachine)
        state = Argument(1, lambda value: is_plain_number(value, 0, 3), InvalidNumber, "value")
        word = Argument("ab", is_plain_word, InvalidWord)
        check_arguments(self, null_pairs, [machine])
        check_arguments(self, null_walk, [machine, state, state])
        for call in (are_told_by_turners, turners_blur, turners_clear):
            check_arguments(self, call, [machine, other])
        check_arguments(self, lambda one, two: is_turners_clear(one, two, None), [machine, other])
        check_arguments(self, is_in_shadow, [machine, word])
        most = Argument(2, number_from(0, 6), InvalidNumber, "value")
        check_arguments(self, lambda one, number: list(shadow(one, number)), [machine, most])
        check_arguments(self, turner_for, [machine, other, Argument(2, number_from(1, 4), InvalidNumber, "value")])

    def test_errors_in_their_order(self):
        short = Machine("a", ((0,),), (0,))
        for call in (are_told_by_turners, turners_blur, turners_clear, lambda a, b: is_turners_clear(a, b, None),
                     lambda a, b: turner_for(a, b, 1)):
            check_error(self, call, (EVEN, short), InvalidOperation)
        for most in (0, 5, True, None):
            check_error(self, turner_for, (EVEN, short, most), InvalidNumber, "value", most)
        check_error(self, is_in_shadow, (short, "b"), InvalidOperation)
        check_error(self, is_in_shadow, (short, "B"), InvalidWord)
        check_error(self, null_walk, (short, 0, 1), InvalidNumber, "value", 1)
        check_error(self, null_walk, (short, 1, 2), InvalidNumber, "value", 1)
        # A generator raises its errors when its first value is asked for.
        waiting = shadow(None, None)
        check_error(self, next, (waiting,), InvalidMachine)
        self.assertEqual(MAX_TRIED, 4)
        self.assertEqual(finding.__name__, "watchkinds.turners.finding")


if __name__ == "__main__":
    unittest.main()
