"""Readings of words by two machines: the maps that words make."""

from watchkinds.base.machines import need_machines, need_same_letters, need_two
from watchkinds.base.tables import explored, led, ways, word_along
from watchkinds.base.values import is_number, is_pair
from watchkinds.base.words import need_over, need_word
from watchkinds.errors import InvalidOperation
from watchkinds.ladder.actions import joint_rounds

MAX_READINGS = 64


def map_of(one, other, word):
    """The map that a word makes."""
    need_machines((one, other))
    need_word(word)
    need_same_letters(one.letters, other.letters)
    need_over(one.letters, word)
    return word_map(one, other, word)


def is_map(one, other, value):
    """Whether the value is a map."""
    need_two(one, other)
    return is_map_of(one, other, value)


def maps_of_words(one, other):
    """The maps of all words, in the order of the first words that make them."""
    need_two(one, other)
    return tuple(explored_maps(one, other, MAX_READINGS)[0])


def first_words_of_maps(one, other):
    """The dict from the maps of words to the first words that make them."""
    need_two(one, other)
    maps, rows = explored_maps(one, other, MAX_READINGS)
    found = ways(rows, 0)
    words = {held: word_along(one.letters, found, at) for at, held in enumerate(maps)}
    return {held: words[held] for held in sorted(maps)}


def behind_map(one, other, left, right):
    """The map of two, the second one behind the first one."""
    _need_maps(one, other, (left, right))
    return map_behind(left, right)


# The parameter `map` of the document cannot have the name of a builtin.
def map_rounds(one, other, map_):
    """The rounds of a map: the least number of times from which on it runs in a ring, and the ring."""
    _need_maps(one, other, (map_,))
    start, ring = joint_rounds(map_)
    return max(1, start), ring


def map_hits(one, other, map_):
    """Which of both machines a map hits."""
    _need_maps(one, other, (map_,))
    return hits_of(one, other, map_)


def word_map(one, other, word):
    """The map that a word of the letters of both machines makes."""
    return tuple([tuple([led(machine.letters, machine.table, word, state) for state in range(len(machine))])
                  for machine in (one, other)])


def is_map_of(one, other, value):
    """Whether the value is a map of two machines, whatever their letters are."""
    return is_pair(value) and _is_part(one, value[0]) and _is_part(other, value[1])


def map_behind(left, right):
    """What two maps make, the second one behind the first one."""
    return tuple([tuple([second[state] for state in first]) for first, second in zip(left, right)])


def hits_of(one, other, held):
    """The pair that tells which of both machines a map hits."""
    return held[0][0] in one.ends, held[1][0] in other.ends


def explored_maps(one, other, most=None):
    """The maps of all words, in the order of the first words that make them, and the table that letters make of them.

    More than `most` raise TooMany.
    """
    def step(held, column):
        return tuple([tuple([machine.table[state][column] for state in part])
                      for machine, part in zip((one, other), held)])

    still = tuple(range(len(one))), tuple(range(len(other)))
    return explored(list(range(len(one.letters))), still, step, most)


def _need_maps(one, other, values):
    """Raise the errors of two machines, and of values that should be maps of them."""
    need_machines((one, other))
    if not all([is_map_of(one, other, value) for value in values]):
        raise InvalidOperation("no map of the machines")
    need_same_letters(one.letters, other.letters)


def _is_part(machine, value):
    """Whether the value has a state of a machine for each of its states."""
    if not isinstance(value, tuple) or len(value) != len(machine):
        return False
    return all([is_number(state, 0, len(machine) - 1) for state in value])
