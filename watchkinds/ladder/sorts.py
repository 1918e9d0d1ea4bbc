"""The nine sorts of boxes and their order."""

from watchkinds.errors import InvalidOperation

SORTS = ("last", "first", "caps", "sums", "clerks", "pieces", "latches", "turners", "any")

# The sorts above each sort, without itself.
_ABOVE = {
    "last": ("latches", "any"),
    "first": ("latches", "any"),
    "caps": ("clerks", "pieces", "latches", "any"),
    "sums": ("clerks", "turners", "any"),
    "clerks": ("any",),
    "pieces": ("latches", "any"),
    "latches": ("any",),
    "turners": ("any",),
    "any": (),
}


def is_sort(value):
    """Whether the value is a sort."""
    return isinstance(value, str) and value in SORTS


def need_sort(sort):
    """Raise the error of what should be a sort, and is none."""
    if not is_sort(sort):
        raise InvalidOperation("no sort")


def is_below(sort, other):
    """Whether the one sort is below the other one, or is the same."""
    need_sort(sort)
    need_sort(other)
    return sort == other or other in _ABOVE[sort]


def uppers(sort):
    """The sorts that a sort is below, itself among them."""
    need_sort(sort)
    return tuple([other for other in SORTS if is_below(sort, other)])


def lowers(sort):
    """The sorts that are below a sort, itself among them."""
    need_sort(sort)
    return tuple([other for other in SORTS if is_below(other, sort)])


def joined(sort, other):
    """The sort that both are below and that is below each other such sort."""
    need_sort(sort)
    need_sort(other)
    above = [upper for upper in uppers(sort) if is_below(other, upper)]
    return least_of(tuple(above))[0]


def least_of(sorts):
    """Those of some sorts that no other of them is below."""
    if not _are_sorts(sorts):
        raise InvalidOperation("no tuple of sorts")
    kept = [sort for sort in SORTS if sort in sorts]
    return tuple([sort for sort in kept if not any([other in kept for other in lowers(sort) if other != sort])])


def is_up_set(value):
    """Whether the value is a tuple of sorts, in their order, that has with each sort all sorts above it."""
    if not _are_sorts(value) or value != tuple([sort for sort in SORTS if sort in value]):
        return False
    return all([upper in value for sort in value for upper in uppers(sort)])


def _are_sorts(value):
    return isinstance(value, tuple) and all([is_sort(sort) for sort in value])
