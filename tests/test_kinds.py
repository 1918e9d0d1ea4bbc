"""Kinds of two machines: up-sets, the same for like machines, kind papers, pairs that show each sort."""

import itertools
import random
import time
import unittest

from plain import (CLOSES, EVEN, NONE, ODD, OPENS, SOME, VALUES, Argument, check_arguments, check_error, check_small,
                   is_machine, language, plain_common_word, random_machine, some_pairs)
from test_images import circle, plain_words_of_maps, tail
from watchkinds.base.joined import is_order_free, mirrored, of_words, renamed, repeated
from watchkinds.base.machines import Machine
from watchkinds.boxes.boxes import Box
from watchkinds.boxes.sights import tells_apart
from watchkinds.errors import InvalidMachine, InvalidOperation, TooMany
from watchkinds.ladder.sorts import SORTS, is_below, is_sort, is_up_set, least_of, uppers
from watchkinds.turning.kinds import is_kind_paper, kind_paper, kinds, least_kinds, shown_pair
from watchkinds.turning.papers import is_blur, tells


def small(one, other):
    """Whether the kinds of two machines can be told."""
    return max(len(one), len(other)) <= 4 and plain_words_of_maps(one, other, 64) is not None


def small_pairs(many, seed, **more):
    return [pair for pair in some_pairs(many, seed, **more) if small(*pair)]


def reordered(some, machine):
    """The machine with its states behind the first one in another order, and with one more that no word reaches."""
    order = [0] + some.sample(range(1, len(machine)), len(machine) - 1)
    table = [machine.table[state] for state in order]
    table = [tuple(order.index(after) for after in row) for row in table]
    ends = tuple(sorted(order.index(state) for state in machine.ends))
    if len(order) < 4:
        table.append(tuple(some.randrange(len(order) + 1) for _ in machine.letters))
        ends += (len(order),) * (some.random() < 0.5)
    return Machine(machine.letters, tuple(table), ends)


class Kinds(unittest.TestCase):
    def test_up_sets_of_what_boxes_tell(self):
        seen = set()
        for one, other in small_pairs(150, 1001) + [shown_pair(sort) for sort in SORTS]:
            found = kinds(one, other)
            self.assertEqual(found, tuple(sort for sort in SORTS if tells(one, other, sort)))
            self.assertIs(is_up_set(found), True)
            self.assertEqual(least_kinds(one, other), least_of(found))
            self.assertEqual(found == (), plain_common_word(one, other, 20) is not None)
            seen.add(found)
        self.assertGreaterEqual(len(seen), 12)

    def test_like_machines_have_the_same_kinds(self):
        some = random.Random(101)
        for one, other in small_pairs(60, 1002, states=(2, 3)):
            found = kinds(one, other)
            self.assertEqual(kinds(other, one), found)
            self.assertEqual(kinds(one.least(), other.least()), found)
            letters = dict(zip(one.letters, some.sample("abcxyz", len(one.letters))))
            self.assertEqual(kinds(renamed(one, letters), renamed(other, letters)), found)
            left, right = reordered(some, one), reordered(some, other)
            if small(left, right):
                self.assertEqual(kinds(left, right), found)

    def test_mirrored_machines(self):
        swap = {"last": "first", "first": "last"}
        seen = set()
        pairs = small_pairs(250, 1003, states=(2, 3), alphabets=("a", "ab")) + [(CLOSES, ~CLOSES), (OPENS, ~OPENS)]
        for one, other in pairs:
            left, right = mirrored(one), mirrored(other)
            if small(left, right):
                found = kinds(one, other)
                self.assertEqual(set(kinds(left, right)), {swap.get(sort, sort) for sort in found})
                seen.add(("last" in found, "first" in found))
        self.assertEqual(len(seen), 4)

    def test_less_words_have_no_kinds_less(self):
        some = random.Random(102)
        more = 0
        for one, other in small_pairs(120, 1004, states=(2, 3)):
            part = random_machine(some, one.letters, 2) & one
            if small(part, other):
                self.assertLessEqual(set(kinds(one, other)), set(kinds(part, other)))
                more += kinds(one, other) != kinds(part, other)
        self.assertGreater(more, 5)

    def test_machines_of_one_letter(self):
        for first, second in itertools.product(range(1, 5), range(1, 5)):
            one = Machine("a", tuple(((at + 1) % first,) for at in range(first)), (0,))
            other = Machine("a", tuple(((at + 1) % second,) for at in range(second)), (second - 1,))
            found = kinds(one, other)
            self.assertIs(is_up_set(found), True)
            self.assertEqual(found == (), plain_common_word(one, other, 20) is not None)
            # Of one letter words differ by their counts alone.
            self.assertEqual("sums" in found, "turners" in found)
            self.assertEqual("clerks" in found, "any" in found)
            self.assertEqual({"caps", "pieces", "latches", "last", "first"} & set(found),
                             {"caps", "pieces", "latches", "last", "first"} if "caps" in found else set())

    def test_finite_sets_of_words(self):
        some = random.Random(103)
        seen = 0
        for _ in range(40):
            words = some.sample(["", "a", "b", "ab", "ba", "aa", "bb"], 4)
            one, other = of_words("ab", tuple(words[:2])), of_words("ab", tuple(words[2:]))
            if small(one, other):
                found = kinds(one, other)
                self.assertLessEqual({"last", "first", "pieces", "latches", "turners", "any"}, set(found))
                counts = [{tuple(sorted(word)) for word in language(machine, 4)} for machine in (one, other)]
                self.assertEqual({"caps", "sums", "clerks"} <= set(found), not counts[0] & counts[1])
                seen += 1
        self.assertGreater(seen, 8)

    def test_order_free_machines(self):
        """Of two order-free machines latches tell exactly if caps do, and turners exactly if sums do [20.2]."""
        some = random.Random(104)
        seen = {}
        for _ in range(3000):
            letters = some.choice(["a", "ab"])
            one = random_machine(some, letters, some.choice([2, 3, 4]))
            other = random_machine(some, letters, some.choice([2, 3, 4]))
            other = other - one if some.random() < 0.5 else other
            if one.ends and other.ends and small(one, other) and is_order_free(one) and is_order_free(other):
                found = kinds(one, other)
                self.assertEqual("latches" in found, "caps" in found)
                self.assertEqual("turners" in found, "sums" in found)
                self.assertEqual("any" in found, "clerks" in found)
                seen[found] = seen.get(found, 0) + 1
        self.assertGreaterEqual(len(seen), 4)

    def test_pairs_that_show_the_sorts(self):
        for sort in SORTS:
            one, other = shown_pair(sort)
            self.assertEqual((one.letters, kinds(one, other), least_kinds(one, other)),
                             (other.letters, uppers(sort), (sort,)))
            self.assertLessEqual(max(len(one), len(other)), 4)
            self.assertLessEqual(len(plain_words_of_maps(one, other)), 64)
            # So one sort is below another one only if the order says so.
            for other_sort in SORTS:
                self.assertIs(tells(one, other, other_sort), is_below(sort, other_sort))
        boxes = {"last": Box.window("ab", 1), "first": Box.heads("ab", 1), "caps": Box.caps("ab", 1),
                 "sums": Box.rests("ab", 2), "clerks": Box.clerk("a", 1, 2), "pieces": Box.pieces("ab", 2)}
        for sort, box in boxes.items():
            self.assertIs(tells_apart(*shown_pair(sort), box), True)


class Papers(unittest.TestCase):
    def test_papers_and_such_near_them(self):
        some = random.Random(105)
        for one, other in small_pairs(40, 1005) + [(EVEN, ODD), (SOME, NONE), (EVEN, SOME)]:
            paper = kind_paper(one, other)
            self.assertEqual(list(paper), list(SORTS))
            self.assertEqual([sort for sort in SORTS if paper[sort] is None], list(kinds(one, other)))
            self.assertTrue(all(blur is None or is_blur(one, other, sort, blur) for sort, blur in paper.items()))
            self.assertIs(is_kind_paper(one, other, paper), True)
            check_small(self, paper)
            shuffled = dict(some.sample(list(paper.items()), 9))
            self.assertIs(is_kind_paper(one, other, shuffled), True)
            for sort in SORTS:
                less = {key: value for key, value in paper.items() if key != sort}
                near = [less, {**less, "every": paper[sort]}, {**less, sort: ()}, {**less, sort: False},
                        {**less, sort: ("word", None)}]
                near += [{**less, sort: None}] * (paper[sort] is not None)
                near += [{**less, sort: ("word", "")}] * (paper[sort] is None)
                near += [{**less, None: paper[sort]}, {**less, 0: paper[sort]}, {**paper, "every": None}]
                for value in near:
                    self.assertIs(is_kind_paper(one, other, value), False, repr(value))
            for value in (tuple(paper.items()), list(paper), None, {}, tuple(paper)):
                self.assertIs(is_kind_paper(one, other, value), False)

    def test_any_value_is_judged(self):
        none = {sort: None for sort in SORTS}
        words = {sort: ("word", "aa") for sort in SORTS}
        for value in VALUES:
            self.assertIs(is_kind_paper(EVEN, ODD, value), False)
            for sort in SORTS:
                self.assertIs(is_kind_paper(SOME, NONE, {**none, sort: value, "last": value}), False)
                expected = is_blur(EVEN, SOME, sort, value)
                self.assertIs(is_kind_paper(EVEN, SOME, {**words, sort: value}), expected, repr(value))
        self.assertIs(is_kind_paper(EVEN, SOME, words), True)
        self.assertIs(is_kind_paper(EVEN, Machine("ab", ((0, 0),)), none), True)


class TooGreat(unittest.TestCase):
    def test_too_many_in_the_order_of_the_sorts(self):
        five, many = repeated(of_words("a", ("aaaaa",))), tail(64)
        big = [Machine("abc", ((1, 2, 3), (2, 2, 0), (3, 0, 0), (0, 1, 2)), ends) for ends in ((0,), (1,))]
        self.assertIsNone(plain_words_of_maps(*big, 64))
        for call in (kinds, least_kinds, kind_paper):
            for one, other in ((five, ~five), (five, five), (many, many), (circle(8), tail(57))):
                # The counts come first.
                check_error(self, call, (one, other), TooMany, "limit", 4)
            check_error(self, call, big, TooMany, "limit", 64)
            check_error(self, call, (big[0], big[0]), TooMany, "limit", 64)

    def test_papers_are_judged_as_far_as_they_are_right(self):
        big = [Machine("abc", ((1, 2, 3), (2, 2, 0), (3, 0, 0), (0, 1, 2)), ends) for ends in ((0,), (1,))]
        five = repeated(of_words("a", ("aaaaa",)))
        none = {sort: None for sort in SORTS}
        # For machines with a word in common no paper tells None of the last letters.
        self.assertIs(is_kind_paper(five, five, none), False)
        words = {sort: ("word", "") for sort in SORTS}
        self.assertIs(is_kind_paper(five, five, words), True)
        self.assertIs(is_kind_paper(five, five, {**words, "caps": None, "last": None}), False)
        check_error(self, is_kind_paper, (five, five, {**words, "caps": None}), TooMany, "limit", 4)
        check_error(self, is_kind_paper, (five, five, {**words, "caps": None, "pieces": 0}), TooMany, "limit", 4)
        self.assertIs(is_kind_paper(five, five, {**words, "caps": None, "first": 0}), False)
        check_error(self, is_kind_paper, (tail(64), tail(64), {sort: ("word", "a" * 63) for sort in SORTS}
                                          | {"latches": None}), TooMany, "limit", 64)
        same = {sort: ("word", "") for sort in SORTS}
        check_error(self, is_kind_paper, (big[0], big[0], {**same, "latches": None}), TooMany, "limit", 64)
        self.assertIs(is_kind_paper(big[0], big[0], {**same, "latches": None, "pieces": None}), False)
        self.assertIs(is_kind_paper(five, five, {"latches": None}), False)

    def test_time(self):
        begin = time.perf_counter()
        for one, other in some_pairs(20, 1006, states=(4,), alphabets=("abc",)):
            for call in (kinds, kind_paper, least_kinds):
                try:
                    call(one, other)
                except TooMany as found:
                    self.assertEqual(found.limit, 64)
        self.assertLess(time.perf_counter() - begin, 30)


class WrongArguments(unittest.TestCase):
    def test_wrong_arguments(self):
        one, other = Argument(EVEN, is_machine, InvalidMachine), Argument(ODD, is_machine, InvalidMachine)
        for call in (kinds, least_kinds, kind_paper, lambda a, b: is_kind_paper(a, b, None)):
            check_arguments(self, call, [one, other])
        check_arguments(self, shown_pair, [Argument("caps", is_sort, InvalidOperation)])

    def test_unlike_letters(self):
        for call, rest in ((kinds, ()), (least_kinds, ()), (kind_paper, ()), (is_kind_paper, (None,)),
                           (is_kind_paper, ({sort: None for sort in SORTS},))):
            check_error(self, call, (EVEN, tail(64), *rest), InvalidOperation)
            check_error(self, call, (tail(64), None, *rest), InvalidMachine)


if __name__ == "__main__":
    unittest.main()
