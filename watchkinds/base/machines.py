"""Machines, which have words."""

from watchkinds.base.tables import Made, led, led_often, least_parts, paired, trimmed, ways, word_along
from watchkinds.base.values import is_ascending, is_table, need_number
from watchkinds.base.words import all_words, is_letters, is_over, is_word, need_over, need_word
from watchkinds.errors import InvalidMachine, InvalidOperation

MAX_STATES = 4
MAX_TIMES = 100000000000


class Machine:
    """A machine: a set of letters, for each state and letter a next state, and ends."""

    def __init__(self, letters, table, ends=()):
        if not is_letters(letters):
            raise InvalidMachine("no set of letters")
        if isinstance(table, Made):
            self._table = table.rows
        elif is_table(table, len(letters), MAX_STATES):
            self._table = table
        else:
            raise InvalidMachine("no table of one to four states")
        if not is_ascending(ends, len(self._table)):
            raise InvalidMachine("no ascending tuple of states")
        self._letters = letters
        self._ends = ends

    @property
    def letters(self):
        """The set of letters."""
        return self._letters

    @property
    def table(self):
        """For each state the next states, in the order of the letters."""
        return self._table

    @property
    def ends(self):
        """The ends, ascending."""
        return self._ends

    @property
    def is_empty(self):
        """Whether the machine has no words."""
        return not any([state in self._ends for state in trimmed(self._table, 0)[0]])

    @property
    def is_full(self):
        """Whether all words of its letters are its words."""
        return all([state in self._ends for state in trimmed(self._table, 0)[0]])

    def after(self, word, *, times=1):
        """The state to which the word, repeated so often, leads from the state 0."""
        need_word(word)
        need_number(times, 0, MAX_TIMES)
        need_over(self._letters, word)
        return led_often(self._letters, self._table, word, 0, times)

    def words(self, most):
        """Its words of at most so many letters, the first one first."""
        need_number(most, 0, 7)
        for word in all_words(self._letters, most):
            if led(self._letters, self._table, word, 0) in self._ends:
                yield word

    def first_word(self):
        """The first of its words, or None if there is none."""
        found = ways(self._table, 0)
        for state in found:
            if state in self._ends:
                return word_along(self._letters, found, state)
        return None

    def least(self):
        """The least machine with the same words."""
        return least_machine(self._letters, self._table, self._ends)

    def __invert__(self):
        others = tuple([state for state in range(len(self._table)) if state not in self._ends])
        return least_machine(self._letters, self._table, others)

    def __or__(self, other):
        return _combined(self, other, ((True, True), (True, False), (False, True)))

    def __and__(self, other):
        return _combined(self, other, ((True, True),))

    def __sub__(self, other):
        return _combined(self, other, ((True, False),))

    def __contains__(self, x):
        if not is_word(x) or not is_over(self._letters, x):
            return False
        return led(self._letters, self._table, x, 0) in self._ends

    def __len__(self):
        return len(self._table)

    def __eq__(self, other):
        return (isinstance(other, Machine) and self._letters == other._letters
                and self._table == other._table and self._ends == other._ends)

    def __str__(self):
        return f"machine of {len(self._table)} states, {len(self._ends)} ends"


def least_machine(letters, table, ends, start=0):
    """The least machine with the words that lead from a row of a table to one of the ends."""
    rows, kept = least_parts(table, ends, start)
    return Machine(letters, Made(rows), kept)


def need_machines(machines):
    """Raise the error of the first one that should be a machine, and is none."""
    for machine in machines:
        if not isinstance(machine, Machine):
            raise InvalidMachine("no machine")


def need_same_letters(one, other):
    """Raise the error of two sets of letters that are not equal."""
    if one != other:
        raise InvalidOperation("the sets of letters are not equal")


def need_two(one, other):
    """Raise the error of what should be two machines with the same letters, and is not."""
    need_machines((one, other))
    need_same_letters(one.letters, other.letters)


def _combined(one, other, wanted):
    """The least machine of the words for which the pair of both answers is a wanted one."""
    need_machines((other,))
    need_same_letters(one.letters, other.letters)
    pairs, rows = paired(one.table, other.table, (0, 0))
    answers = [(left in one.ends, right in other.ends) for left, right in pairs]
    return least_machine(one.letters, rows, tuple([at for at, answer in enumerate(answers) if answer in wanted]))
