"""Rings at states, words that counts cannot tell apart, and counts blurs."""

from watchkinds.base.joined import is_word_blur
from watchkinds.base.machines import need_machines, need_same_letters
from watchkinds.base.tables import led
from watchkinds.base.values import common_multiple, is_integer, is_number, is_pair, need_number
from watchkinds.base.words import counts, is_letters, is_over, is_word, need_letters, need_over, need_word
from watchkinds.counts.spans import rings_by_counts
from watchkinds.counts.vectors import plus
from watchkinds.errors import InvalidOperation, TooMany

COUNT_SORTS = ("caps", "sums", "clerks")
MAX_NUMBER = 6
MAX_LENGTH = 100000

_MAX_ALIKE = 40


def met(machine, word):
    """The states that a word meets on its way from the state 0."""
    need_machines((machine,))
    need_word(word)
    need_over(machine.letters, word)
    states = [0]
    for letter in word:
        states.append(led(machine.letters, machine.table, letter, states[-1]))
    return tuple(sorted(set(states)))


def simple_rings(machine, state):
    """The first words of the simple rings at a state, one for each counts of such rings, the first one first."""
    need_machines((machine,))
    need_number(state, 0, len(machine) - 1)
    return tuple(list(rings_by_counts(machine.letters, machine.table, state).values()))


def is_ring(machine, state, value):
    """Whether the value is a ring at a state."""
    need_machines((machine,))
    need_number(state, 0, len(machine) - 1)
    return _leads_back(machine, state, value)


def is_alike(letters, sort, number, word, other):
    """Whether each box of the sort of which the number is at most `number` leads two words alike."""
    need_letters(letters)
    need_count_sort(sort)
    need_number(number, 1, _MAX_ALIKE)
    need_word(word)
    need_word(other)
    need_over(letters, word + other)
    return all([_are_alike(sort, number, one, two) for one, two in zip(counts(letters, word), counts(letters, other))])


def is_counts_blur(one, other, sort, value):
    """Whether the value is a counts blur of two machines for a sort."""
    need_machines((one, other))
    need_count_sort(sort)
    need_same_letters(one.letters, other.letters)
    return _is_blur(one, other, sort, value)


def side_sum(machine, side):
    """The sum of a side: for each letter its count in the word, and in each ring so many times."""
    need_machines((machine,))
    if not _is_side(machine, side):
        raise InvalidOperation("no side of the machine")
    return _sum_of(machine.letters, side)


def counts_words(one, other, sort, blur, number):
    """Any words of both machines that each box of the sort with this number at most leads alike."""
    need_machines((one, other))
    need_count_sort(sort)
    need_number(number, 1, MAX_NUMBER)
    need_same_letters(one.letters, other.letters)
    if not _is_blur(one, other, sort, blur):
        raise InvalidOperation("no counts blur of the machines for the sort")
    if blur[0] == "word":
        return blur[1], blur[1]
    _, large, left, right = blur
    sides = [(word, [(at, ring, _times_round(sort, number, is_over(large, ring), times)) for at, ring, times in rings])
             for word, rings in (left, right)]
    for word, rings in sides:
        if len(word) + sum([len(ring) * times for _, ring, times in rings]) > MAX_LENGTH:
            raise TooMany(MAX_LENGTH)
    return tuple([_with_rings(word, rings) for word, rings in sides])


def need_count_sort(sort):
    """Raise the error of what should be one of the three sorts that count, and is none."""
    if not isinstance(sort, str) or sort not in COUNT_SORTS:
        raise InvalidOperation("no sort that counts")


def _leads_back(machine, state, value):
    if not is_word(value) or value == "" or not is_over(machine.letters, value):
        return False
    return led(machine.letters, machine.table, value, state) == state


def _are_alike(sort, number, one, other):
    """Whether the numbers how often a letter comes in two words are alike."""
    if sort != "sums" and one != other and min(one, other) < number:
        return False
    return sort == "caps" or (one - other) % common_multiple(number) == 0


def _is_blur(one, other, sort, value):
    if is_word_blur(one, other, value):
        return True
    if not isinstance(value, tuple) or len(value) != 4 or value[0] != "counts":
        return False
    _, large, left, right = value
    if large != "" and not (is_letters(large) and is_over(one.letters, large)):
        return False
    if not _is_side(one, left) or not _is_side(other, right):
        return False
    return _are_sides_of_blur(one.letters, sort, large, left, right)


def _are_sides_of_blur(letters, sort, large, left, right):
    """Whether both sides have sums, free rings and other rings as the sort asks for."""
    if any([times < 0 and not is_over(large, ring) for _, ring, times in left[1] + right[1]]):
        return False
    sums = _sum_of(letters, left), _sum_of(letters, right)
    if any([one != other and (sort != "caps" or letter not in large) for letter, one, other in zip(letters, *sums)]):
        return False
    if sort == "sums":
        return large == letters
    return all([_is_gone_round(letter, large, side) for letter in large for side in (left, right)])


def _is_gone_round(letter, large, side):
    """Whether the letter is in some free ring of a side."""
    return any([letter in ring and is_over(large, ring) for _, ring, _ in side[1]])


def _is_side(machine, value):
    if not is_pair(value) or value[0] not in machine or not isinstance(value[1], tuple):
        return False
    return all([_is_turn(machine, value[0], part) for part in value[1]])


def _is_turn(machine, word, value):
    """Whether the value tells of a ring at a state that the word meets, and how often it is gone round."""
    if not isinstance(value, tuple) or len(value) != 3:
        return False
    at, ring, times = value
    if not is_number(at, 0, len(word)) or not is_integer(times):
        return False
    return _leads_back(machine, led(machine.letters, machine.table, word[:at], 0), ring)


def _sum_of(letters, side):
    sums = counts(letters, side[0])
    for _, ring, times in side[1]:
        sums = plus(sums, counts(letters, ring), times)
    return sums


def _times_round(sort, number, is_free, times):
    """How often a ring is gone round, so that boxes with this number at most cannot tell."""
    if not is_free:
        return times
    if sort == "caps":
        return number
    # By the rests nothing changes; clerks see rests only of what comes often enough.
    least = number if sort == "clerks" else 0
    return least + (times - least) % common_multiple(number)


def _with_rings(word, rings):
    """The word with the rings where they are gone round."""
    parts = [[] for _ in range(len(word) + 1)]
    for at, ring, times in rings:
        parts[at].append(ring * times)
    return "".join(["".join(parts[at]) + word[at:at + 1] for at in range(len(word) + 1)])
