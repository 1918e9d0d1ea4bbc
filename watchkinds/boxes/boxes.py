"""Boxes, the memories of watchers."""

from watchkinds.base.machines import MAX_STATES, MAX_TIMES, least_machine, need_same_letters
from watchkinds.base.tables import Made, explored, led, led_often, paired, trimmed, ways, word_along
from watchkinds.base.values import is_ascending, is_table, need_number
from watchkinds.base.words import first_letters, is_letters, last_letters, need_letters, need_over, need_word
from watchkinds.errors import InvalidBox, InvalidOperation, TooMany

MAX_PLACES = 6
MAX_MADE = 400

_MAX_SIZE = 4
_MAX_PIECES = 3
_MAX_CAP = 9
_MAX_MODULUS = 12


class Box:
    """A box: a set of letters, and for each place and letter a next place."""

    def __init__(self, letters, table):
        if not is_letters(letters):
            raise InvalidBox("no set of letters")
        if isinstance(table, Made):
            self._table = table.rows
        elif is_table(table, len(letters), MAX_PLACES):
            self._table = table
        else:
            raise InvalidBox("no table of one to six places")
        self._letters = letters

    @classmethod
    def window(cls, letters, size):
        """The box that sees the last so many letters."""
        need_letters(letters)
        need_number(size, 0, _MAX_SIZE)
        return cls(letters, _grown(letters, "", lambda seen, letter: last_letters(seen + letter, size)))

    @classmethod
    def heads(cls, letters, size):
        """The box that sees the first so many letters."""
        need_letters(letters)
        need_number(size, 0, _MAX_SIZE)
        return cls(letters, _grown(letters, "", lambda seen, letter: first_letters(seen + letter, size)))

    @classmethod
    def pieces(cls, letters, most):
        """The box that sees the pieces of at most so many letters."""
        need_letters(letters)
        need_number(most, 0, _MAX_PIECES)
        return cls(letters, _grown(letters, ("",), lambda seen, letter: _with_pieces(seen, letter, most)))

    @classmethod
    def caps(cls, letters, most):
        """The box that counts each letter up to a cap."""
        need_letters(letters)
        need_number(most, 0, _MAX_CAP)
        return cls(letters, _counting(letters, most, 1))

    @classmethod
    def rests(cls, letters, modulus):
        """The box that counts each letter by the rests of a modulus."""
        need_letters(letters)
        need_number(modulus, 1, _MAX_MODULUS)
        return cls(letters, _counting(letters, 0, modulus))

    @classmethod
    def clerk(cls, letters, cap, modulus):
        """The box that counts each letter up to a cap, and from there on by the rests of a modulus."""
        need_letters(letters)
        need_number(cap, 0, _MAX_CAP)
        need_number(modulus, 1, _MAX_MODULUS)
        return cls(letters, _counting(letters, cap, modulus))

    @property
    def letters(self):
        """The set of letters."""
        return self._letters

    @property
    def table(self):
        """For each place the next places, in the order of the letters."""
        return self._table

    def __call__(self, word):
        need_word(word)
        need_over(self._letters, word)
        return led(self._letters, self._table, word, 0)

    def place(self, word, start, *, times=1):
        """The place to which the word, repeated so often, leads from a place."""
        need_word(word)
        need_number(start, 0, len(self._table) - 1)
        need_number(times, 0, MAX_TIMES)
        need_over(self._letters, word)
        return led_often(self._letters, self._table, word, start, times)

    def action(self, word):
        """The tuple of the places to which the word leads from each place."""
        need_word(word)
        need_over(self._letters, word)
        return tuple([led(self._letters, self._table, word, start) for start in range(len(self._table))])

    def first_word(self, place):
        """The first word that leads to a place, or None."""
        need_number(place, 0, len(self._table) - 1)
        found = ways(self._table, 0)
        return word_along(self._letters, found, place) if place in found else None

    def lean(self):
        """The box without the places to which no word leads, the others numbered by their first words."""
        return Box(self._letters, Made(trimmed(self._table, 0)[1]))

    def machine(self, places):
        """The least machine whose words lead to one of these places."""
        if not is_ascending(places, len(self._table)):
            raise InvalidOperation("no ascending tuple of places")
        found = least_machine(self._letters, self._table, places)
        if len(found) > MAX_STATES:
            raise TooMany(MAX_STATES)
        return found

    def __and__(self, other):
        need_box(other)
        need_same_letters(self._letters, other.letters)
        return Box(self._letters, Made(paired(self._table, other.table, (0, 0), MAX_MADE)[1]))

    def __len__(self):
        return len(self._table)

    def __eq__(self, other):
        return isinstance(other, Box) and self._letters == other._letters and self._table == other._table

    def __str__(self):
        return f"box of {len(self._table)} places for {self._letters}"


def need_box(box):
    """Raise the error of what should be a box, and is none."""
    if not isinstance(box, Box):
        raise InvalidBox("no box")


def _grown(letters, start, step):
    """The rows of the lean box that keeps just what `step` makes of what it kept and of a letter."""
    return Made(explored(letters, start, step, MAX_MADE)[1])


def _with_pieces(seen, letter, most):
    longer = [piece + letter for piece in seen if len(piece) < most]
    return tuple(sorted(set(list(seen) + longer)))


def _counting(letters, cap, modulus):
    """The rows of the box that counts each letter: a number from the cap on stands for its rest."""
    def step(held, letter):
        return tuple([_one_more(number, cap, modulus) if sign == letter else number
                      for sign, number in zip(letters, held)])

    return _grown(letters, tuple([0 for _ in letters]), step)


def _one_more(number, cap, modulus):
    return number + 1 if number + 1 < cap + modulus else cap
