"""Paths of letters and of blocks of letters, which scattered pieces cannot tell apart."""

from watchkinds.base.joined import is_word_blur
from watchkinds.base.machines import need_machines, need_two
from watchkinds.base.tables import led
from watchkinds.base.values import is_pair, need_number
from watchkinds.base.words import is_letter, is_over, is_word, need_letters, need_over
from watchkinds.errors import InvalidOperation
from watchkinds.pieces.sides import all_rings, rings_of, sides_from

MAX_STEPS = 60

_MAX_MADE = 20


def is_path(one, other, value):
    """Whether the value is a good path."""
    need_two(one, other)
    return _pairs_on(one, other, value) is not None


def path_ends(one, other, path):
    """The pair of the states to which a good path leads."""
    need_two(one, other)
    pairs = _pairs_on(one, other, path)
    if pairs is None:
        raise InvalidOperation("no good path of the machines")
    return pairs[-1]


def is_pieces_blur(one, other, value):
    """Whether the value is a blur for the pieces."""
    need_two(one, other)
    if is_word_blur(one, other, value):
        return True
    if not is_pair(value) or value[0] != "blocks":
        return False
    pairs = _pairs_on(one, other, value[1])
    return pairs is not None and pairs[-1][0] in one.ends and pairs[-1][1] in other.ends


def pieces_words(one, other, blur, number):
    """Any words of both machines with the same pieces of at most so many letters."""
    if not is_pieces_blur(one, other, blur):
        raise InvalidOperation("no blur for the pieces")
    need_number(number, 0, _MAX_MADE)
    if blur[0] == "word":
        return blur[1], blur[1]
    pairs = _pairs_on(one, other, blur[1])
    rings = all_rings(one), all_rings(other)
    made = ["", ""]
    for at, step in enumerate(blur[1]):
        if step[0] == "letter":
            made = [word + step[1] for word in made]
        else:
            letters = _letters_of(step[1][1])
            # Sides of one's own, for the same letters and states, keep the words short.
            sides = [sides_from(machine, held, start, letters)[end]
                     for machine, held, start, end in zip((one, other), rings, pairs[at], pairs[at + 1])]
            made = [word + to + ring * max(1, number) + on for word, (to, ring, on) in zip(made, sides)]
    return tuple(made)


def ring_letters(machine, state):
    """The sets of letters of all words that are not empty and lead a state to itself."""
    need_machines((machine,))
    need_number(state, 0, len(machine) - 1)
    return tuple(rings_of(machine.letters, machine.table, state))


def block_ends(machine, state, letters):
    """The states to which a side with rings of just these letters leads from a state."""
    need_machines((machine,))
    need_number(state, 0, len(machine) - 1)
    need_letters(letters)
    need_over(machine.letters, letters)
    return tuple(sorted(list(sides_from(machine, all_rings(machine), state, letters))))


def _letters_of(word):
    return "".join(sorted(set(word)))


def _pairs_on(one, other, value):
    """The pairs of states that a good path meets, from 0 and 0 on, or None if the value is no good path."""
    if not isinstance(value, tuple) or len(value) > MAX_STEPS:
        return None
    pairs = [(0, 0)]
    for step in value:
        after = _after_step(one, other, pairs[-1], step)
        if after is None:
            return None
        pairs.append(after)
    return pairs


def _after_step(one, other, pair, step):
    """The pair of states to which a step leads, or None if the step is none, or not good."""
    if not isinstance(step, tuple) or step == ():
        return None
    if step[0] == "letter" and len(step) == 2 and is_letter(one.letters, step[1]):
        column = one.letters.index(step[1])
        return one.table[pair[0]][column], other.table[pair[1]][column]
    if step[0] == "block" and len(step) == 3 and _are_sides(one.letters, step[1], step[2]):
        after = _after_side(one, pair[0], step[1]), _after_side(other, pair[1], step[2])
        return None if None in after else after
    return None


def _are_sides(letters, side, others):
    """Whether the values are the two sides of a block: of words, with rings of just the same letters."""
    if not _is_side(letters, side) or not _is_side(letters, others):
        return False
    return side[1] != "" and _letters_of(side[1]) == _letters_of(others[1])


def _is_side(letters, value):
    if not isinstance(value, tuple) or len(value) != 3:
        return False
    if not all([is_word(word) and is_over(letters, word) for word in value]):
        return False
    return is_over(value[1], value[0] + value[2])


def _after_side(machine, state, side):
    """The state to which a side leads from a state, or None if its ring does not lead back."""
    to, ring, on = side
    turned = led(machine.letters, machine.table, to, state)
    if led(machine.letters, machine.table, ring, turned) != turned:
        return None
    return led(machine.letters, machine.table, on, turned)
