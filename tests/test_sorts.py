"""The sorts and their order: all sorts, all pairs of them, and all up-sets."""

import itertools
import unittest

from watchkinds.errors import InvalidOperation
from watchkinds.ladder import sorts
from watchkinds.ladder.sorts import SORTS, is_below, is_sort, is_up_set, joined, least_of, lowers, uppers

from plain import VALUES, Argument, check_arguments, check_error

TOLD = [("caps", "pieces"), ("caps", "clerks"), ("sums", "clerks"), ("sums", "turners"), ("last", "latches"),
        ("first", "latches"), ("pieces", "latches"), ("latches", "any"), ("clerks", "any"), ("turners", "any")]


def plain_order():
    """All pairs of a sort and one that it is below, by what [6.1] tells and what follows."""
    order = set(TOLD) | {(sort, sort) for sort in SORTS}
    while True:
        more = {(one, last) for one, two in order for too, last in order if two == too} - order
        if not more:
            return order
        order |= more


ORDER = plain_order()


def is_plain_sort(value):
    return type(value) is str and value in SORTS


def are_plain_sorts(value):
    return type(value) is tuple and all(is_plain_sort(sort) for sort in value)


class Sorts(unittest.TestCase):
    def test_constant(self):
        self.assertEqual(SORTS, ("last", "first", "caps", "sums", "clerks", "pieces", "latches", "turners", "any"))

    def test_is_sort(self):
        for value in VALUES + list(SORTS) + ["cap", "Last", "last ", "last\n", "an", ("any",)]:
            self.assertIs(is_sort(value), is_plain_sort(value), repr(value))

    def test_pairs_of_sorts(self):
        for one, other in itertools.product(SORTS, repeat=2):
            self.assertIs(is_below(one, other), (one, other) in ORDER)
            above = [sort for sort in SORTS if (one, sort) in ORDER and (other, sort) in ORDER]
            joins = [sort for sort in above if all((sort, upper) in ORDER for upper in above)]
            self.assertEqual([joined(one, other)], joins)

    def test_uppers_and_lowers(self):
        for sort in SORTS:
            self.assertEqual(uppers(sort), tuple(other for other in SORTS if (sort, other) in ORDER))
            self.assertEqual(lowers(sort), tuple(other for other in SORTS if (other, sort) in ORDER))

    def test_sets_of_sorts(self):
        for many in range(len(SORTS) + 1):
            for chosen in itertools.combinations(SORTS, many):
                least = tuple(sort for sort in chosen
                              if not any((other, sort) in ORDER and other != sort for other in chosen))
                self.assertEqual(least_of(chosen), least)
                self.assertEqual(least_of(chosen[::-1] + chosen), least)
                full = all(upper in chosen for sort in chosen for one, upper in ORDER if one == sort)
                self.assertIs(is_up_set(chosen), full)
                self.assertIs(is_up_set(list(chosen)), False)
                if many > 1:
                    self.assertIs(is_up_set(chosen[::-1]), False)
                if many:
                    self.assertIs(is_up_set(chosen + chosen[-1:]), False)
        self.assertEqual(least_of(()), ())
        self.assertIs(is_up_set(()), True)

    def test_wrong_arguments(self):
        sort = Argument("caps", is_plain_sort, InvalidOperation)
        check_arguments(self, is_below, [sort, sort])
        check_arguments(self, joined, [sort, sort])
        check_arguments(self, uppers, [sort])
        check_arguments(self, lowers, [sort])
        check_arguments(self, least_of, [Argument(("caps", "any"), are_plain_sorts, InvalidOperation)])
        for wrong in (["caps"], ("caps", "cap"), ("caps", None), "caps", (("caps",),), ({},), ([],)):
            check_error(self, least_of, (wrong,), InvalidOperation)
            self.assertIs(is_up_set(wrong), False)
        for value in VALUES:
            self.assertIs(is_up_set(value), value == () or value == ("any",), repr(value))

    def test_defined_in_the_module(self):
        for name in ("is_sort", "is_below", "uppers", "lowers", "joined", "least_of", "is_up_set"):
            self.assertEqual(getattr(sorts, name).__module__, "watchkinds.ladder.sorts")


if __name__ == "__main__":
    unittest.main()
