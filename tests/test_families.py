"""Families of machines: pairs apart, groups, watchers for families, boxes joined."""

import itertools
import random
import time
import unittest

from plain import (EVEN, LATCH, NONE, ODD, SOME, SWITCH, VALUES, Argument, check_arguments, check_error, is_box,
                   is_machine, led_to, random_machine, some_boxes, some_machines, words_up_to)
from test_images import circle, plain_words_of_maps, tail
from watchkinds.base.joined import of_words, repeated
from watchkinds.base.machines import Machine
from watchkinds.boxes.boxes import Box
from watchkinds.boxes.sights import tells_apart
from watchkinds.counts.finding import first_clerk
from watchkinds.errors import InvalidOperation, TooMany
from watchkinds.ends.ends import first_number, last_number
from watchkinds.ladder.aperiodic import turns_no_place
from watchkinds.ladder.checks import is_of
from watchkinds.ladder.sorts import SORTS, is_below, is_sort, is_up_set
from watchkinds.pieces.finding import least_pieces
from watchkinds.rows.levels import row_box
from watchkinds.turners.finding import turner_for
from watchkinds.turning.families import (MAX_FAMILY, apart_pairs, family_kinds, is_watcher_for, joined_watcher,
                                         kind_groups)
from watchkinds.turning.papers import tells

FAMILY = (NONE, ODD, EVEN & SOME)


def is_family(value):
    return (type(value) is tuple and 1 <= len(value) <= 5 and all(is_machine(machine) for machine in value)
            and len({machine.letters for machine in value}) == 1)


def are_boxes(value):
    return (type(value) is tuple and 1 <= len(value) <= 4 and all(is_box(box) for box in value)
            and len({box.letters for box in value}) == 1)


def families(many, seed):
    """Families of one to five machines, with few maps of words."""
    some = random.Random(seed)
    found = []
    while len(found) < many:
        letters = some.choice(("a", "ab"))
        members = [random_machine(some, letters, some.choice((1, 2, 3))) for _ in range(some.randint(1, 5))]
        members = [member - some.choice(members) if some.random() < 0.6 else member for member in members]
        if all(len(one) <= 4 and plain_words_of_maps(one, other, 64) for one in members for other in members):
            found.append(tuple(members))
    return found


def plain_groups(many, joined):
    """The groups that arise if the members of each pair are put together."""
    groups = [{at} for at in range(many)]
    for one, other in joined:
        both = [group for group in groups if one in group or other in group]
        groups = [group for group in groups if group not in both] + [set().union(*both)]
    return tuple(sorted(tuple(sorted(group)) for group in groups))


def some_watcher(one, other, sort):
    """Some small box of a sort that tells two machines apart, or None if none is known here."""
    letters = one.letters
    if sort == "last":
        return Box.window(letters, min(4, last_number(one, other)))
    if sort == "first":
        return Box.heads(letters, min(4, first_number(one, other)))
    if sort in ("caps", "sums", "clerks"):
        cap, modulus = first_clerk(one, other, sort, 12)
        return Box.clerk(letters, min(9, cap), modulus)
    if sort == "pieces":
        number = least_pieces(one, other, 3)
        return None if number is None else Box.pieces(letters, number)
    if sort == "turners":
        return turner_for(one, other, 4)
    return None


class Families(unittest.TestCase):
    def test_pairs_and_groups(self):
        seen = set()
        for family in families(60, 1101) + [FAMILY, (EVEN,), (EVEN, EVEN, ODD, ODD, NONE)]:
            everything = list(itertools.combinations(range(len(family)), 2))
            for sort in SORTS:
                apart = tuple(pair for pair in everything if tells(family[pair[0]], family[pair[1]], sort))
                self.assertEqual(apart_pairs(family, sort), apart)
                groups = plain_groups(len(family), [pair for pair in everything if pair not in apart])
                self.assertEqual(kind_groups(family, sort), groups)
                seen.add((len(family), len(groups)))
                # Two machines of unlike groups are told apart.
                for one, other in everything:
                    if not any(one in group and other in group for group in groups):
                        self.assertIn((one, other), apart)
            found = family_kinds(family)
            self.assertEqual(found, tuple(sort for sort in SORTS if len(apart_pairs(family, sort)) == len(everything)))
            self.assertIs(is_up_set(found), True)
        self.assertGreater(len(seen), 10)
        self.assertEqual(family_kinds((EVEN,)), SORTS)
        self.assertEqual((apart_pairs((EVEN,), "caps"), kind_groups((EVEN,), "caps")), ((), ((0,),)))

    def test_groups_by_sorts_above(self):
        for family in families(40, 1102):
            for sort, upper in itertools.product(SORTS, repeat=2):
                if is_below(sort, upper):
                    groups = kind_groups(family, sort)
                    self.assertTrue(all(any(set(part) <= set(group) for group in groups)
                                        for part in kind_groups(family, upper)))

    def test_machines_of_one_group_need_not_be_blurred(self):
        """Put together is what a third machine is blurred with [21.2]."""
        left, right = of_words("ab", ("a",)), of_words("ab", ("b",))
        both = of_words("ab", ("a", "b"))
        self.assertEqual(kind_groups((left, right, both), "any"), ((0, 1, 2),))
        self.assertEqual(apart_pairs((left, right, both), "any"), ((0, 1),))

    def test_joined_watchers_for_families(self):
        """Of watchers for all pairs that can be told apart one for the family is joined [21.1]."""
        joined = 0
        for family in families(60, 1103) + [FAMILY]:
            for sort in SORTS:
                pairs = apart_pairs(family, sort)
                boxes = [some_watcher(family[one], family[other], sort) for one, other in pairs]
                boxes = list({str(box) + repr(box and box.table): box for box in boxes}.values())
                if None in boxes or not 1 <= len(boxes) <= 4:
                    continue
                if not all(any(tells_apart(family[one], family[other], box) for box in boxes) for one, other in pairs):
                    continue
                try:
                    watcher = joined_watcher(tuple(boxes))
                except TooMany as found:
                    self.assertEqual(found.limit, 400)
                    continue
                self.assertIs(is_watcher_for(family, sort, watcher), True)
                joined += len(boxes) > 1
        self.assertGreater(joined, 10)

    def test_watchers_and_such_near_them(self):
        boxes = some_boxes("ab", 60, 1104, places=(1, 2, 3, 4)) + [LATCH, SWITCH, Box.clerk("ab", 1, 2)]
        boxes += [Box.window("ab", 2), Box.heads("ab", 1), Box.pieces("ab", 2), Box.rests("ab", 4)]
        right = {sort: 0 for sort in SORTS}
        for family in [family for family in families(60, 1105) if family[0].letters == "ab"] + [FAMILY]:
            for sort in SORTS:
                pairs = apart_pairs(family, sort)
                for box in boxes[::3] if sort == "latches" else boxes:
                    expected = is_of(box, sort) and all(tells_apart(family[one], family[other], box)
                                                        for one, other in pairs)
                    self.assertIs(is_watcher_for(family, sort, box), expected)
                    right[sort] += expected and pairs != ()
        self.assertGreater(sum(many > 0 for many in right.values()), 6)

    def test_any_value_is_judged(self):
        for value in VALUES:
            for sort in SORTS:
                expected = is_box(value) and value.letters == "ab" and is_of(value, sort) and all(
                    tells_apart(FAMILY[one], FAMILY[other], value) for one, other in apart_pairs(FAMILY, sort))
                self.assertIs(is_watcher_for(FAMILY, sort, value), expected, repr(value))

    def test_boxes_with_many_actions_are_judged(self):
        """A box is judged also where its words have more than 2000 actions."""
        turning = Box("abc", ((1, 1, 0), (2, 0, 1), (3, 2, 2), (4, 3, 3), (5, 4, 4), (0, 5, 4)))
        check_error(self, is_of, (turning, "latches"), TooMany, "limit", 2000)
        family = (Machine("abc", ((0, 0, 0),)), Machine("abc", ((0, 0, 0),), (0,)))
        self.assertIs(is_watcher_for(family, "latches", turning), False)
        self.assertIs(is_watcher_for(family, "any", turning), True)
        some = random.Random(111)
        while True:
            # Words of two boxes side by side have nearly as many actions as those of both, one by one.
            one, other = (Box("abc", tuple(zip(*[sorted(some.choices(range(6), k=6)) for _ in "abc"]))).lean()
                          for _ in range(2))
            both = one & other
            try:
                is_of(both, "latches")
            except TooMany:
                break
        self.assertIs(is_watcher_for(family, "latches", both), True)
        self.assertIs(is_watcher_for(family, "latches", both & SWITCH_C), False)

    def test_latches_without_looking_at_all_actions(self):
        some = random.Random(112)
        seen = {True: 0, False: 0}
        for box in some_boxes("ab", 400, 1106) + some_boxes("abc", 200, 1107) + some_boxes("a", 100, 1108):
            columns = [list(range(len(box))) for _ in box.letters]
            for column in columns:
                # Near rings, in which words turn round though no letter does.
                column[:] = column[1:] + column[:1]
                column[some.randrange(len(column))] = some.randrange(len(column))
                column[some.randrange(len(column))] = some.randrange(len(column))
            for made in (box, Box(box.letters, tuple(zip(*columns)))):
                try:
                    expected = is_of(made, "latches")
                except TooMany:
                    continue
                self.assertIs(turns_no_place(made.table), expected)
                seen[expected] += 1
        self.assertGreater(min(seen.values()), 200)
        for many in (2, 3, 5, 7, 9):
            # The word of both letters turns so many places round, and no letter does so.
            table = tuple((many + at, 0) for at in range(many)) + tuple((many, (at + 1) % many) for at in range(many))
            self.assertIs(turns_no_place(table), False)
            # Without the last way back it only leads on.
            self.assertIs(turns_no_place(table[:-1] + ((many, many - 1),)), True)


SWITCH_C = Box("abc", ((1, 0, 0), (0, 1, 1)))


class Joined(unittest.TestCase):
    def test_joined_boxes(self):
        some = random.Random(113)
        boxes = some_boxes("ab", 40, 1109, places=(1, 2, 3, 4))
        for size in (1, 2, 3, 4):
            for _ in range(12):
                held = tuple(some.sample(boxes, size))
                found = joined_watcher(held)
                self.assertEqual(found, found.lean())
                met = {}
                for word in words_up_to("ab", 6):
                    stand = tuple(led_to(box, word) for box in held)
                    self.assertEqual(met.setdefault(stand, led_to(found, word)), led_to(found, word))
                self.assertEqual(len(met), len(set(met.values())))
        self.assertEqual(joined_watcher((Box("a", ((0,), (0,))),)), Box("a", ((0,),)))

    def test_four_hundred_places_and_more(self):
        rests = [Box.rests("a", modulus) for modulus in (12, 11, 7, 5)]
        self.assertEqual(len(joined_watcher((rests[1], rests[2], rests[3]))), 385)
        self.assertEqual(len(joined_watcher((Box.rests("ab", 5), Box.rests("ab", 4)))), 400)
        for held in ((rests[0], rests[1], rests[3]), tuple(rests), (Box.rests("ab", 5), Box.rests("ab", 6))):
            check_error(self, joined_watcher, (held,), TooMany, "limit", 400)
        # A box of a row has more places, perhaps too many of them reached.
        row = tuple((10, 0, ({(): tuple(range(1, 10)) + (0,)},)) if at == 0 else
                    (10, 0, ({(9,) * at: tuple(range(1, 10)) + (0,)},)) for at in range(3))
        box = row_box("a", row)
        self.assertEqual(len(box), 1000)
        for held in ((box,), (box, rests[0]), (rests[0], box)):
            check_error(self, joined_watcher, (held,), TooMany, "limit", 400)


class TooGreat(unittest.TestCase):
    def test_too_many(self):
        five = repeated(of_words("a", ("aaaaa",)))
        small = Machine("a", ((0,),), (0,))
        for call in (apart_pairs, kind_groups):
            for sort in ("caps", "sums", "clerks"):
                check_error(self, call, ((small, small, five), sort), TooMany, "limit", 4)
                self.assertEqual(len(call((five,), sort)), 1 if call == kind_groups else 0)
            for sort in ("last", "first", "pieces", "turners", "any"):
                call((small, small, five), sort)
            check_error(self, call, ((small, tail(64), small), "latches"), TooMany, "limit", 64)
        for family in ((small, five), (small, small, tail(64))):
            # The sorts come in their order, for each pair.
            check_error(self, family_kinds, (family,), TooMany, "limit", 4)
        many = Machine("abc", ((1, 2, 3), (2, 2, 0), (3, 0, 0), (0, 1, 2)), (0,))
        none = Machine("abc", ((0, 0, 0),))
        check_error(self, family_kinds, ((none, none, many),), TooMany, "limit", 64)
        greater = repeated(of_words("abc", ("aabbc",)))
        check_error(self, family_kinds, ((none, many, greater),), TooMany, "limit", 4)
        self.assertEqual(family_kinds((many,)), SORTS)

    def test_watchers_are_looked_at_first(self):
        small, five = Machine("a", ((0,),), (0,)), repeated(of_words("a", ("aaaaa",)))
        for value in (None, LATCH, Box.rests("a", 2), (small,)):
            self.assertIs(is_watcher_for((small, five), "caps", value), False)
        check_error(self, is_watcher_for, ((small, five), "caps", Box.caps("a", 1)), TooMany, "limit", 4)
        check_error(self, is_watcher_for, ((small, circle(65)), "latches", Box.caps("a", 1)), TooMany, "limit", 64)
        self.assertIs(is_watcher_for((small, circle(65)), "latches", Box.rests("a", 2)), False)
        self.assertIs(is_watcher_for((five,), "caps", Box.caps("a", 1)), True)

    def test_time(self):
        begin = time.perf_counter()
        for seed in range(4):
            family = tuple(some_machines("abc", 5, 1110 + seed, states=(4,)))
            for sort in SORTS:
                for call in (apart_pairs, kind_groups):
                    try:
                        call(family, sort)
                    except TooMany as found:
                        self.assertEqual(found.limit, 64)
        self.assertLess(time.perf_counter() - begin, 30)


class WrongArguments(unittest.TestCase):
    def test_wrong_arguments(self):
        self.assertEqual(MAX_FAMILY, 5)
        family = Argument(FAMILY, is_family, InvalidOperation)
        sort = Argument("clerks", is_sort, InvalidOperation)
        for call in (apart_pairs, kind_groups, lambda a, b: is_watcher_for(a, b, None)):
            check_arguments(self, call, [family, sort])
        check_arguments(self, family_kinds, [family])
        check_arguments(self, joined_watcher, [Argument((LATCH, SWITCH), are_boxes, InvalidOperation)])
        short = Machine("a", ((0,),))
        for wrong in ((), (EVEN,) * 6, (EVEN, short), [EVEN, ODD], (EVEN, None), EVEN, (EVEN, LATCH), ((EVEN, ODD),)):
            for call, rest in ((apart_pairs, ("caps",)), (kind_groups, ("caps",)), (family_kinds, ()),
                               (is_watcher_for, ("caps", LATCH)), (apart_pairs, (None,))):
                check_error(self, call, (wrong, *rest), InvalidOperation)
        for wrong in ((), (LATCH,) * 5, (LATCH, Box("a", ((0,),))), [LATCH], (LATCH, EVEN), LATCH, ((LATCH,),)):
            check_error(self, joined_watcher, (wrong,), InvalidOperation)


if __name__ == "__main__":
    unittest.main()
