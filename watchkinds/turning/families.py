"""Families of machines: which of them boxes of a sort tell apart, and boxes that tell all of these apart."""

from watchkinds.base.machines import Machine
from watchkinds.base.values import grouped
from watchkinds.boxes.boxes import Box
from watchkinds.boxes.sights import tells_apart
from watchkinds.errors import InvalidOperation
from watchkinds.ladder.aperiodic import turns_no_place
from watchkinds.ladder.checks import is_of
from watchkinds.ladder.sorts import SORTS, need_sort
from watchkinds.turning.papers import tells

MAX_FAMILY = 5

_MOST_BOXES = 4


def apart_pairs(machines, sort):
    """The pairs of indices of the machines that some box of a sort tells apart."""
    _need_family(machines)
    need_sort(sort)
    return tuple([pair for pair in _pairs(machines) if tells(machines[pair[0]], machines[pair[1]], sort)])


def kind_groups(machines, sort):
    """The groups of indices that arise if each two machines that no box of a sort tells apart are put together."""
    apart = apart_pairs(machines, sort)
    return grouped(len(machines), [pair for pair in _pairs(machines) if pair not in apart])


def is_watcher_for(machines, sort, value):
    """Whether the value is a box of the sort that tells all machines of a family apart that such boxes can tell."""
    _need_family(machines)
    need_sort(sort)
    if not isinstance(value, Box) or value.letters != machines[0].letters or not _is_box_of(value, sort):
        return False
    return all([tells_apart(machines[one], machines[other], value) for one, other in apart_pairs(machines, sort)])


def joined_watcher(boxes):
    """The lean box that leads two words to the same place exactly if all boxes of a tuple do."""
    if not isinstance(boxes, tuple) or not 1 <= len(boxes) <= _MOST_BOXES:
        raise InvalidOperation("no tuple of one to four boxes")
    if not all([isinstance(box, Box) for box in boxes]) or not _have_same_letters(boxes):
        raise InvalidOperation("no boxes with equal sets of letters")
    # Beside itself a box becomes lean, and is not let to have too many places.
    found = boxes[0] & boxes[0]
    for box in boxes[1:]:
        found = found & box
    return found


def family_kinds(machines):
    """The sorts with which each two machines of a family are told apart by some box of the sort."""
    _need_family(machines)
    return tuple([sort for sort in SORTS if len(apart_pairs(machines, sort)) == len(_pairs(machines))])


def _need_family(machines):
    if not isinstance(machines, tuple) or not 1 <= len(machines) <= MAX_FAMILY:
        raise InvalidOperation("no tuple of one to five machines")
    if not all([isinstance(machine, Machine) for machine in machines]) or not _have_same_letters(machines):
        raise InvalidOperation("no machines with equal sets of letters")


def _have_same_letters(things):
    return all([thing.letters == things[0].letters for thing in things])


def _pairs(machines):
    """All pairs of two indices, the lesser one first."""
    return [(one, other) for one in range(len(machines)) for other in range(one + 1, len(machines))]


def _is_box_of(box, sort):
    """Whether a box is of a sort, however many actions its words have."""
    return turns_no_place(box.table) if sort == "latches" else is_of(box, sort)
