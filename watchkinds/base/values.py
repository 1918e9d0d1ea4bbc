"""Tests of plain values: numbers, tuples of numbers, tables."""

from math import lcm

from watchkinds.errors import InvalidNumber


def is_integer(value):
    """Whether the value is an integer; True and False are not integers."""
    return isinstance(value, int) and not isinstance(value, bool)


def is_number(value, least, most):
    """Whether the value is an integer from `least` to `most`."""
    return is_integer(value) and least <= value <= most


def need_number(value, least, most):
    """Raise the error of a number that is no integer within its bounds."""
    if not is_number(value, least, most):
        raise InvalidNumber(value)


def common_multiple(number):
    """The least number, at least 1, that all numbers from 1 to this one divide."""
    found = 1
    for part in range(1, number + 1):
        found = lcm(found, part)
    return found


def is_pair(value):
    """Whether the value is a tuple with two members."""
    return isinstance(value, tuple) and len(value) == 2


def ascends(values):
    """Whether each member is less than the next one; the members can be compared."""
    return all([values[at] < values[at + 1] for at in range(len(values) - 1)])


def is_ascending(value, many):
    """Whether the value is an ascending tuple of some of the integers from 0 to `many`, exclusive."""
    if not isinstance(value, tuple):
        return False
    return all([is_number(part, 0, many - 1) for part in value]) and ascends(value)


def are_pairs(value, many, others):
    """Whether the value is an ascending tuple of pairs of an integer below `many` and one below `others`."""
    if not isinstance(value, tuple):
        return False
    return all([_is_pair_of(part, many, others) for part in value]) and ascends(value)


def grouped(many, pairs):
    """The groups of the integers below `many` that arise if those of each pair are put together, and so on."""
    groups = list(range(many))
    for one, other in pairs:
        groups = [groups[other] if group == groups[one] else group for group in groups]
    members = [tuple([at for at, group in enumerate(groups) if group == first]) for first in sorted(set(groups))]
    return tuple(sorted(members))


def is_table(value, width, most):
    """Whether the value is a tuple of one to `most` rows, each a tuple of `width` indices of rows."""
    if not isinstance(value, tuple) or not 1 <= len(value) <= most:
        return False
    return all([_is_row(row, width, len(value)) for row in value])


def _is_pair_of(value, many, others):
    return is_pair(value) and is_number(value[0], 0, many - 1) and is_number(value[1], 0, others - 1)


def _is_row(value, width, many):
    if not isinstance(value, tuple) or len(value) != width:
        return False
    return all([is_number(after, 0, many - 1) for after in value])
