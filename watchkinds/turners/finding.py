"""What turners tell apart: null pairs, blurs, clear papers, shadows, and turners with few places."""

from heapq import heappop, heappush

from watchkinds.base.joined import common_word
from watchkinds.base.machines import need_machines, need_same_letters, need_two
from watchkinds.base.tables import trimmed
from watchkinds.base.values import are_pairs, need_number
from watchkinds.base.words import all_words, need_over, need_word
from watchkinds.boxes.boxes import Box
from watchkinds.boxes.sights import tells_apart
from watchkinds.turners.nulls import NullWalks, steps_from

MAX_TRIED = 4

_MAX_SHADOW = 6


def null_pairs(machine):
    """The ascending tuple of the null pairs."""
    need_machines((machine,))
    return tuple(sorted(list(NullWalks(machine).found)))


def null_walk(machine, one, other):
    """Any walk from a state to a state whose row is alike to the empty one, or None."""
    need_machines((machine,))
    need_number(one, 0, len(machine) - 1)
    need_number(other, 0, len(machine) - 1)
    nulls = NullWalks(machine)
    return nulls.walk(one, other) if (one, other) in nulls.found else None


def are_told_by_turners(one, other):
    """Whether some turner tells two machines apart."""
    return turners_clear(one, other) is not None


def turners_blur(one, other):
    """Any blur for the turners, or None."""
    need_two(one, other)
    word = common_word(one, other)
    if word is not None:
        return ("word", word)
    nulls = NullWalks(one), NullWalks(other)
    joint = _joint_ways(nulls[0], nulls[1])
    for pair in joint:
        if _has_ends(one, other, pair):
            return ("walks",) + _walks_to(nulls, joint, pair)
    return None


def turners_clear(one, other):
    """Any clear paper for the turners, or None."""
    need_two(one, other)
    nulls = NullWalks(one), NullWalks(other)
    parts = nulls[0].found, nulls[1].found, _joint_ways(nulls[0], nulls[1])
    if any([_has_ends(one, other, pair) for pair in parts[2]]):
        return None
    return tuple([tuple(sorted(list(part))) for part in parts])


def is_turners_clear(one, other, value):
    """Whether the value is a clear paper for the turners."""
    need_two(one, other)
    if not isinstance(value, tuple) or len(value) != 3:
        return False
    first, second, joint = value
    if not _are_null(one, first) or not _are_null(other, second) or not are_pairs(joint, len(one), len(other)):
        return False
    if any([_has_ends(one, other, pair) for pair in joint]):
        return False
    return _is_closed(one, other, first, second, joint)


def is_in_shadow(machine, word):
    """Whether a word is alike to the row of some full walk of a machine."""
    need_machines((machine,))
    need_word(word)
    need_over(machine.letters, word)
    return _is_shadowed(machine, _nulls_from(machine), word)


def shadow(machine, most):
    """The words of the shadow of at most so many letters, the first one first."""
    need_machines((machine,))
    need_number(most, 0, _MAX_SHADOW)
    nulls = _nulls_from(machine)
    for word in all_words(machine.letters, most):
        if _is_shadowed(machine, nulls, word):
            yield word


def turner_for(one, other, most):
    """Any turner with the fewest places that tells two machines apart, if at most `most` are enough, or None."""
    need_machines((one, other))
    need_number(most, 1, MAX_TRIED)
    need_same_letters(one.letters, other.letters)
    # Where no turner tells, which is soon known, none need be tried.
    if turners_clear(one, other) is None:
        return None
    for places in range(1, most + 1):
        for table in _turning_tables(len(one.letters), places):
            box = Box(one.letters, table)
            if tells_apart(one, other, box):
                return box
    return None


def _has_ends(one, other, pair):
    return pair[0] in one.ends and pair[1] in other.ends


def _joint_ways(left, right):
    """A dict from the pairs of states of both machines to which walks with alike rows lead, the cheapest ones first.

    Each has the pair ahead of it and what is walked from there, two tuples of steps and null pairs; (0, 0) has None.
    """
    found = {}
    best = {(0, 0): (0, None)}
    queue = [(0, 0, 0)]
    while queue:
        cost, one, other = heappop(queue)
        if (one, other) in found:
            continue
        found[(one, other)] = best[(one, other)][1]
        for after, more, walked in _joint_steps(left, right, one, other):
            if after not in best or cost + more < best[after][0]:
                best[after] = (cost + more, ((one, other), walked))
                heappush(queue, (cost + more, after[0], after[1]))
    return found


def _joint_steps(left, right, one, other):
    """The triples of a pair to which walks lead from a pair, of their cost, and of what is walked."""
    found = [((state, other), left.cost(one, state), (((one, state),), ()))
             for state in range(left.many) if (one, state) in left.found]
    found += [((one, state), right.cost(other, state), ((), ((other, state),)))
              for state in range(right.many) if (other, state) in right.found]
    return found + [((step[2], also[2]), left.costs[step] + right.costs[also], ((step,), (also,)))
                    for step in left.out[one] for also in right.out[other] if step[1] == also[1]]


def _walks_to(nulls, joint, pair):
    """The two walks with alike rows that lead both machines to a pair."""
    parts = ([], [])
    while joint[pair] is not None:
        pair, walked = joint[pair]
        for side, held in zip(parts, walked):
            side.extend(held)
    return tuple([_whole_walk(walks, side[::-1]) for walks, side in zip(nulls, parts)])


def _whole_walk(nulls, parts):
    """The walk of steps and of null walks, which are told by their pairs."""
    walk = []
    for part in parts:
        walk.extend((part,) if len(part) == 3 else nulls.walk(part[0], part[1]))
    return tuple(walk)


def _are_null(machine, value):
    """Whether the value is an ascending tuple of pairs of states with all that is told of null pairs."""
    if not are_pairs(value, len(machine), len(machine)):
        return False
    held = {pair: True for pair in value}
    afters = _lists_of(machine, value)
    steps = steps_from(machine)
    befores = {state: [(sign, before) for before in steps for _, sign, after in steps[before] if after == state]
               for state in steps}
    return (all([(state, state) in held for state in steps])
            and all([(one, after) in held for one, other in value for after in afters[other]])
            and all([(before, after) in held for one, other in value for sign, before in befores[one]
                     for _, back, after in steps[other] if back == sign.swapcase()]))


def _is_closed(one, other, first, second, joint):
    """Whether pairs of a state of each machine have (0, 0) and with each pair all that null pairs and steps tell."""
    held = {pair: True for pair in joint}
    lefts, rights = _lists_of(one, first), _lists_of(other, second)
    steps, others = steps_from(one), steps_from(other)
    return ((0, 0) in held
            and all([(after, right) in held for left, right in joint for after in lefts[left]])
            and all([(left, after) in held for left, right in joint for after in rights[right]])
            and all([(after, further) in held for left, right in joint for _, sign, after in steps[left]
                     for _, same, further in others[right] if same == sign]))


def _lists_of(machine, pairs):
    """For each state of a machine the second states of the pairs of which it is the first one."""
    found = [[] for _ in range(len(machine))]
    for one, other in pairs:
        found[one].append(other)
    return found


def _nulls_from(machine):
    """For each state the states to which null walks lead from it."""
    return _lists_of(machine, sorted(list(NullWalks(machine).found)))


def _is_shadowed(machine, nulls, word):
    states = nulls[0]
    for letter in word:
        column = machine.letters.index(letter)
        states = sorted(set([after for state in states for after in nulls[machine.table[state][column]]]))
    return any([state in machine.ends for state in states])


def _turning_tables(width, places):
    """The tables of all turners with so many places, each of them reached, and numbered by first words."""
    turns = [[]]
    for place in range(places):
        turns = [turn[:at] + [place] + turn[at:] for turn in turns for at in range(place + 1)]
    tables = [tuple([() for _ in range(places)])]
    for _ in range(width):
        tables = [tuple([row + (after,) for row, after in zip(table, turn)]) for table in tables for turn in turns]
    return [table for table in tables if trimmed(table, 0)[1] == table]
