"""Machines made of words and of other machines, and questions about machines."""

from watchkinds.base.machines import least_machine, need_machines, need_two
from watchkinds.base.tables import explored, knots_of, led, paired, ways, word_along
from watchkinds.base.values import is_pair
from watchkinds.base.words import is_over, is_word, need_letters, need_over, need_word
from watchkinds.errors import InvalidOperation

_MOST_WORDS = 6
_MOST_LETTERS = 6


def of_words(letters, words):
    """The machine with just these words."""
    need_letters(letters)
    if not isinstance(words, tuple) or len(words) > _MOST_WORDS:
        raise InvalidOperation("no tuple of at most six words")
    if not all([is_word(word) and len(word) <= _MOST_LETTERS and is_over(letters, word) for word in words]):
        raise InvalidOperation("no words of at most six of these letters")
    begins = {word[:size]: True for word in words for size in range(len(word) + 1)}

    def step(begin, letter):
        return begin + letter if begin is not None and begin + letter in begins else None

    begun, rows = explored(letters, "", step)
    return _with_ends(letters, rows, [begin in words for begin in begun])


def chained(one, other):
    """The machine of the words of the one with a word of the other one behind them."""
    need_two(one, other)

    def step(key, column):
        state, others = key
        after = one.table[state][column]
        entered = [0] if after in one.ends else []
        return after, _all_of(entered + [other.table[at][column] for at in others])

    start = (0, (0,) if 0 in one.ends else ())
    keys, rows = explored(list(range(len(one.letters))), start, step)
    return _with_ends(one.letters, rows, [_meet(others, other.ends) for _, others in keys])


def repeated(machine):
    """The machine of any number of words of the machine, one behind another."""
    need_machines((machine,))

    def step(key, column):
        afters = [machine.table[state][column] for state in key[1]]
        return False, _all_of(afters + ([0] if _meet(afters, machine.ends) else []))

    # The empty word is one, also where the state 0 is no end: so the beginning is a key of its own.
    keys, rows = explored(list(range(len(machine.letters))), (True, (0,)), step)
    return _with_ends(machine.letters, rows, [fresh or _meet(states, machine.ends) for fresh, states in keys])


def mirrored(machine):
    """The machine with the words of the machine, each read from behind."""
    need_machines((machine,))

    def step(states, column):
        return tuple([state for state, row in enumerate(machine.table) if row[column] in states])

    keys, rows = explored(list(range(len(machine.letters))), machine.ends, step)
    return _with_ends(machine.letters, rows, [0 in states for states in keys])


def behind(machine, word):
    """The machine with all words that make a word of the machine if the word stands in front of them."""
    need_machines((machine,))
    need_word(word)
    need_over(machine.letters, word)
    start = led(machine.letters, machine.table, word, 0)
    return least_machine(machine.letters, machine.table, machine.ends, start)


def renamed(machine, letters):
    """The machine with other letters, by a dict from its letters to different ones."""
    need_machines((machine,))
    if not _is_renaming(machine.letters, letters):
        raise InvalidOperation("no dict from just the letters of the machine to different letters")
    olds = {letters[old]: column for column, old in enumerate(machine.letters)}
    news = sorted(list(olds))
    table = tuple([tuple([row[olds[new]] for new in news]) for row in machine.table])
    return least_machine("".join(news), table, machine.ends)


def common_word(one, other):
    """The first word that both have, or None."""
    need_two(one, other)
    return _first_word_with(one, other, ((True, True),))


def is_word_blur(one, other, value):
    """Whether the value is the blur, for each sort, of a word of both machines."""
    return is_pair(value) and value[0] == "word" and value[1] in one and value[1] in other


def first_difference(one, other):
    """The first word that just one of both has, or None."""
    need_two(one, other)
    return _first_word_with(one, other, ((True, False), (False, True)))


def are_same(one, other):
    """Whether both have the same words."""
    return first_difference(one, other) is None


def state_words(machine):
    """The dict from the states to which words lead to the first such words."""
    need_machines((machine,))
    found = ways(machine.table, 0)
    return {state: word_along(machine.letters, found, state) for state in sorted(list(found))}


def knots(machine):
    """The ascending tuple of the knots."""
    need_machines((machine,))
    return knots_of(machine.table)


def is_order_free(machine):
    """Whether each word that has the same letters equally often as a word of the machine is one, too."""
    need_machines((machine,))
    table = machine.least().table
    columns = range(len(machine.letters))
    return all([table[row[one]][other] == table[row[other]][one]
                for row in table for one in columns for other in columns])


def _with_ends(letters, rows, answers):
    """The least machine of a table in which the rows with the answer True are ends."""
    return least_machine(letters, rows, tuple([at for at, answer in enumerate(answers) if answer]))


def _all_of(states):
    return tuple(sorted(set(states)))


def _meet(states, others):
    return any([state in others for state in states])


def _is_renaming(olds, letters):
    """Whether the value is a dict from just the old letters to different letters."""
    if not isinstance(letters, dict) or len(letters) != len(olds) or not all([old in letters for old in olds]):
        return False
    news = [letters[old] for old in olds]
    return all([is_word(new) and len(new) == 1 for new in news]) and len(set(news)) == len(news)


def _first_word_with(one, other, wanted):
    """The first word for which the pair of both answers is a wanted one, or None."""
    pairs, rows = paired(one.table, other.table, (0, 0))
    found = ways(rows, 0)
    for at, (left, right) in enumerate(pairs):
        if (left in one.ends, right in other.ends) in wanted:
            return word_along(one.letters, found, at)
    return None
