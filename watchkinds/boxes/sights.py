"""What boxes see of machines, and which machines they tell apart."""

from watchkinds.base.machines import need_machines, need_same_letters
from watchkinds.base.tables import paired, ways, word_along
from watchkinds.base.values import are_pairs, grouped, is_pair, need_number
from watchkinds.base.words import need_over, need_word
from watchkinds.boxes.boxes import need_box
from watchkinds.errors import InvalidMachine

_MOST_MACHINES = 8


def places(machine, box):
    """The places to which the words of a machine lead."""
    _need((machine,), box)
    _need_letters((machine,), box)
    return tuple(sorted(list(_first_words(machine, box))))


def word_to(machine, box, place):
    """The first word of the machine that leads to a place, or None."""
    _need((machine,), box)
    need_number(place, 0, len(box) - 1)
    _need_letters((machine,), box)
    return _first_words(machine, box).get(place, None)


def tells_apart(one, other, box):
    """Whether a box tells two machines apart."""
    return alike_pair(one, other, box) is None


def alike_pair(one, other, box):
    """Any pair of a word of the one and one of the other machine that lead to one place, or None."""
    _need((one, other), box)
    _need_letters((one, other), box)
    left = _first_words(one, box)
    right = _first_words(other, box)
    for place, word in left.items():
        if place in right:
            return word, right[place]
    return None


def is_alike_pair(one, other, box, value):
    """Whether the value is a pair of a word of each machine that lead to one place."""
    _need((one, other), box)
    _need_letters((one, other), box)
    if not is_pair(value) or value[0] not in one or value[1] not in other:
        return False
    return box(value[0]) == box(value[1])


def is_seen(machine, box, word):
    """Whether a word leads the box to a place to which some word of the machine leads it."""
    _need((machine,), box)
    need_word(word)
    _need_letters((machine,), box)
    need_over(box.letters, word)
    return box(word) in _first_words(machine, box)


def apart_paper(one, other, box):
    """Any paper that a box tells two machines apart, or None."""
    if alike_pair(one, other, box) is not None:
        return None
    return _reached(one, box), _reached(other, box)


def is_apart_paper(one, other, box, value):
    """Whether the value is a paper that a box tells two machines apart."""
    _need((one, other), box)
    _need_letters((one, other), box)
    if not is_pair(value) or not _is_closed(one, box, value[0]) or not _is_closed(other, box, value[1]):
        return False
    left = {place: True for state, place in value[0] if state in one.ends}
    return not any([state in other.ends and place in left for state, place in value[1]])


def guesses_of(box, machines, word):
    """The indices of the machines of which some word leads the box where the word leads it."""
    need_box(box)
    _need_some(machines)
    need_word(word)
    _need_letters(machines, box)
    need_over(box.letters, word)
    place = box(word)
    return tuple([at for at, machine in enumerate(machines) if place in _first_words(machine, box)])


def box_groups(box, machines):
    """The groups of indices that arise if each two machines that are not told apart are put together."""
    need_box(box)
    _need_some(machines)
    _need_letters(machines, box)
    seen = [_first_words(machine, box) for machine in machines]
    return grouped(len(machines), [(one, other) for one in range(len(machines)) for other in range(one)
                                   if any([place in seen[other] for place in seen[one]])])


def _need(machines, box):
    need_machines(machines)
    need_box(box)


def _need_letters(machines, box):
    for machine in machines:
        need_same_letters(machine.letters, box.letters)


def _need_some(machines):
    if not isinstance(machines, tuple) or not 1 <= len(machines) <= _MOST_MACHINES:
        raise InvalidMachine("no tuple of one to eight machines")
    need_machines(machines)


def _first_words(machine, box):
    """A dict from the places to which words of the machine lead to the first such words."""
    pairs, rows = paired(machine.table, box.table, (0, 0))
    found = ways(rows, 0)
    firsts = {}
    for at, (state, place) in enumerate(pairs):
        if state in machine.ends and place not in firsts:
            firsts[place] = word_along(box.letters, found, at)
    return firsts


def _reached(machine, box):
    return tuple(sorted(paired(machine.table, box.table, (0, 0))[0]))


def _is_closed(machine, box, value):
    """Whether the value is one of both tuples of a paper, as far as it concerns one machine alone."""
    if not are_pairs(value, len(machine), len(box)):
        return False
    held = {pair: True for pair in value}
    return (0, 0) in held and all([after in held for state, place in value
                                   for after in zip(machine.table[state], box.table[place])])
