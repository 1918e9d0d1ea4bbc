"""What scattered pieces tell apart: blurs of as few steps as any, closed sets of pairs, least numbers."""

from watchkinds.base.machines import need_two
from watchkinds.base.values import are_pairs, need_number
from watchkinds.boxes.boxes import Box
from watchkinds.boxes.sights import alike_pair
from watchkinds.pieces.sides import all_rings, sides_from

MAX_PIECES = 3

_MAX_OF_THREE = 2


def pieces_blur(one, other):
    """Any blur for the pieces, or None; its path has as few steps as any."""
    need_two(one, other)
    steps = _steps_to_pairs(one, other)
    for pair in steps:
        if _has_ends(one, other, pair):
            return ("blocks", _path_to(steps, pair))
    return None


def pieces_clear(one, other):
    """Any closed set of pairs without a pair of two ends, or None."""
    need_two(one, other)
    pairs = sorted(list(_steps_to_pairs(one, other)))
    return None if any([_has_ends(one, other, pair) for pair in pairs]) else tuple(pairs)


def is_pieces_clear(one, other, value):
    """Whether the value is a closed set of pairs without a pair of two ends."""
    need_two(one, other)
    if not are_pairs(value, len(one), len(other)) or any([_has_ends(one, other, pair) for pair in value]):
        return False
    held = {pair: True for pair in value}
    sides = _all_sides(one), _all_sides(other)
    return (0, 0) in held and all([after in held for pair in value for after in _afters(one, other, sides, pair)])


def are_told_by_pieces(one, other):
    """Whether some box of the sort of the pieces tells the machines apart."""
    return pieces_clear(one, other) is not None


def least_pieces(one, other, most):
    """The least number that suffices, if it is at most `most`, otherwise None."""
    _need_most(one, other, most)
    for number in range(most + 1):
        if alike_pair(one, other, Box.pieces(one.letters, number)) is None:
            return number
    return None


def pieces_pair(one, other, most):
    """Any words of both machines with the same pieces of at most so many letters, or None."""
    _need_most(one, other, most)
    return alike_pair(one, other, Box.pieces(one.letters, most))


def _need_most(one, other, most):
    need_two(one, other)
    need_number(most, 0, _MAX_OF_THREE if len(one.letters) == 3 else MAX_PIECES)


def _has_ends(one, other, pair):
    return pair[0] in one.ends and pair[1] in other.ends


def _sets_of(letters):
    """All sets of some of the letters."""
    found = [""]
    for letter in letters:
        found = found + [part + letter for part in found]
    return found[1:]


def _all_sides(machine):
    """For each state a dict from sets of letters to the dicts of the sides from there."""
    rings = all_rings(machine)
    return [{part: sides_from(machine, rings, state, part) for part in _sets_of(machine.letters)}
            for state in range(len(machine))]


def _afters(one, other, sides, pair):
    """A dict from the pairs to which one step leads from a pair to such steps."""
    left, right = sides[0][pair[0]], sides[1][pair[1]]
    found = {}
    for letter, after, further in zip(one.letters, one.table[pair[0]], other.table[pair[1]]):
        if (after, further) not in found:
            found[(after, further)] = ("letter", letter)
    for part in left:
        for after, side in left[part].items():
            for last, further in right[part].items():
                if (after, last) not in found:
                    found[(after, last)] = ("block", side, further)
    return found


def _steps_to_pairs(one, other):
    """A dict from the pairs to which paths lead, the ones with few steps first.

    Each has the pair of the pair ahead of it and the step from there, (0, 0) has None.
    """
    sides = _all_sides(one), _all_sides(other)
    found = {(0, 0): None}
    queue = [(0, 0)]
    done = 0
    while done < len(queue):
        pair = queue[done]
        done += 1
        for after, step in _afters(one, other, sides, pair).items():
            if after not in found:
                found[after] = (pair, step)
                queue.append(after)
    return found


def _path_to(steps, pair):
    path = []
    while steps[pair] is not None:
        pair, step = steps[pair]
        path.append(step)
    return tuple(path[::-1])
