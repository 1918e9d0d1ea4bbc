"""The fields of which lines consist, with blanks between them: how they are read and written.

What is read of a field that cannot stand there is None.
"""

from watchkinds.base.values import ascends, is_number
from watchkinds.base.words import is_letters, is_word

_MAX_DIGITS = 12
_GREATEST = 999999999999


def read_number(field):
    """The number of at least 0 that a field tells, or None."""
    if not field.isascii() or not field.isdigit() or len(field) > _MAX_DIGITS:
        return None
    return int(field) if field == "0" or not field.startswith("0") else None


def read_signed(field):
    """The number that a field tells, or None; it can be below 0."""
    if not field.startswith("-"):
        return read_number(field)
    number = read_number(field[1:])
    return None if number is None or number == 0 else -number


def read_word(field):
    """The word that a field tells, or None."""
    if field == "-":
        return ""
    return field if field != "" and is_word(field) else None


def read_letters(field):
    """The set of letters that a field tells, or None."""
    return field if is_letters(field) else None


def read_letter(field):
    """The letter that a field tells, or None."""
    return field if is_letter_field(field) else None


def read_ascending(field):
    """The string of ascending letters, perhaps empty, that a field tells, or None."""
    word = read_word(field)
    return word if word is not None and ascends(word) else None


def read_step(field):
    """The step of a walk that a field tells, or None."""
    return (int(field[0]), field[1], int(field[2])) if is_step_text(field) else None


def is_letter_field(value):
    """Whether the value is one letter."""
    return is_word(value) and len(value) == 1


def is_step_text(field):
    """Whether a field has a figure, a sign and a figure."""
    return len(field) == 3 and field.isascii() and (field[0] + field[2]).isdigit() and field[1].isalpha()


def read_numbers(fields):
    """The tuple of the numbers of some fields, or None."""
    numbers = [read_number(field) for field in fields]
    return None if None in numbers else tuple(numbers)


def is_count(value):
    """Whether the value is a number of at least 0 that can be written."""
    return is_number(value, 0, _GREATEST)


def is_signed(value):
    """Whether the value is a number that can be written, perhaps below 0."""
    return is_number(value, -_GREATEST, _GREATEST)


def word_field(word):
    """A word, or another string of letters, as it is written."""
    return word if word != "" else "-"


def line_of(name, fields):
    """The line of a name and of numbers and other fields behind it."""
    return " ".join([name] + [str(field) for field in fields])
