"""Of which sorts boxes are, by which numbers, and what bars them from the others."""

from watchkinds.boxes.boxes import need_box
from watchkinds.errors import InvalidOperation
from watchkinds.ladder.actions import all_actions, columns_of, joint_rounds
from watchkinds.ladder.bars import blends, found_bar, found_turn, is_bar_of
from watchkinds.ladder.sorts import SORTS, need_sort

MAX_ACTIONS = 2000


def is_of(box, sort):
    """Whether a box is of a sort."""
    return bar(box, sort) is None


def sorts_of(box):
    """All sorts of a box."""
    need_box(box)
    return tuple([sort for sort in SORTS if is_of(box, sort)])


def number_of(box, sort):
    """The least number by which a box is of a sort, or None if it is not of the sort."""
    need_box(box)
    need_sort(sort)
    if sort not in _NUMBERS:
        raise InvalidOperation("no sort of which the number can be told")
    find_number = _NUMBERS[sort]
    return find_number(box)


def bar(box, sort):
    """Any bar of a box for a sort, or None."""
    need_box(box)
    need_sort(sort)
    if sort == "latches":
        actions, rows = all_actions(box.table, MAX_ACTIONS)
        return found_turn(box.letters, actions, rows)
    return found_bar(box.letters, box.table, sort)


def is_bar(box, sort, value):
    """Whether the value is a bar of a box for a sort."""
    need_box(box)
    need_sort(sort)
    return is_bar_of(box.letters, box.table, sort, value)


def _last_number(box):
    # Words of so many letters lead each place where they lead all places behind it, if they do so at each step.
    for number, groups in enumerate(blends(box.table)):
        if all([groups[place] == groups[after] for place, row in enumerate(box.table) for after in row]):
            return number
    return None


def _first_number(box):
    # Settled are the places from which so many letters lead to places that no letter leads on.
    settled = [all([after == place for after in row]) for place, row in enumerate(box.table)]
    number = 0
    while not all(settled):
        wider = [settled[place] or all([settled[after] for after in row]) for place, row in enumerate(box.table)]
        if wider == settled:
            return None
        settled = wider
        number += 1
    return number


def _caps_number(box):
    start, ring = joint_rounds(columns_of(box.table))
    return start if ring == 1 and is_of(box, "clerks") else None


def _sums_number(box):
    start, ring = joint_rounds(columns_of(box.table))
    return ring if start == 0 and is_of(box, "clerks") else None


def _clerks_number(box):
    start, ring = joint_rounds(columns_of(box.table))
    # The least multiple of the ring that is at least the start, and at least 1.
    return ring * max(1, (start + ring - 1) // ring) if is_of(box, "clerks") else None


def _latches_number(box):
    start, ring = joint_rounds(all_actions(box.table, MAX_ACTIONS)[0])
    return start if ring == 1 else None


def _turners_number(box):
    start, ring = joint_rounds(all_actions(box.table, MAX_ACTIONS)[0])
    return ring if start == 0 else None


_NUMBERS = {
    "last": _last_number,
    "first": _first_number,
    "caps": _caps_number,
    "sums": _sums_number,
    "clerks": _clerks_number,
    "latches": _latches_number,
    "turners": _turners_number,
}
