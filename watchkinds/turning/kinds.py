"""The kinds of two machines: the sorts of which some box tells them apart."""

from watchkinds.base.machines import Machine, need_two
from watchkinds.ladder.sorts import SORTS, is_sort, least_of, need_sort
from watchkinds.turning.papers import blur_of, is_blur, tells

# For each sort the letters and the table of two machines, and the ends of the one and of the other machine.
_SHOWN = {
    "last": ("ab", ((1, 0), (1, 0)), (1,), (0,)),
    "first": ("ab", ((1, 2), (1, 1), (2, 2)), (1,), (2,)),
    "caps": ("ab", ((1, 0), (1, 1)), (1,), (0,)),
    "sums": ("ab", ((1, 0), (0, 1)), (1,), (0,)),
    "clerks": ("a", ((1,), (2,), (1,)), (0, 1), (2,)),
    "pieces": ("ab", ((1, 0), (1, 2), (2, 2)), (1,), (2,)),
    "latches": ("ab", ((0, 1), (0, 2), (1, 2)), (0,), (1,)),
    "turners": ("ab", ((1, 0), (0, 2), (2, 1)), (0,), (1,)),
    "any": ("ab", ((1, 0), (0, 0)), (0,), (1,)),
}


def kinds(one, other):
    """The sorts of which some box tells two machines apart."""
    need_two(one, other)
    return tuple([sort for sort in SORTS if tells(one, other, sort)])


def least_kinds(one, other):
    """Those of the kinds of two machines that no other of them is below."""
    return least_of(kinds(one, other))


def kind_paper(one, other):
    """Any dict from all sorts to blurs, or to None where some box of the sort tells two machines apart."""
    need_two(one, other)
    return {sort: blur_of(one, other, sort) for sort in SORTS}


def is_kind_paper(one, other, value):
    """Whether the value is a kind paper of two machines."""
    need_two(one, other)
    if not isinstance(value, dict) or len(value) != len(SORTS) or not all([is_sort(sort) for sort in value]):
        return False
    for sort in SORTS:
        blur = value[sort]
        if blur is None and not tells(one, other, sort):
            return False
        if blur is not None and not is_blur(one, other, sort, blur):
            return False
    return True


def shown_pair(sort):
    """Any pair of machines that boxes of this sort and of all sorts above it tell apart, and no others."""
    need_sort(sort)
    letters, table, ends, others = _SHOWN[sort]
    return Machine(letters, table, ends), Machine(letters, table, others)
