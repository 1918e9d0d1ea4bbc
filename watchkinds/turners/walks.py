"""Rows of signs, walks there and back, stand-ins for walks, and blurs for the turners."""

from watchkinds.base.joined import is_word_blur
from watchkinds.base.machines import need_machines, need_two
from watchkinds.base.tables import knots_of, way_between
from watchkinds.base.values import common_multiple, is_number, need_number
from watchkinds.errors import InvalidOperation, InvalidWord, TooMany

MAX_LENGTH = 100000

_MAX_REPEATED = 60
_MAX_NUMBER = 12


def is_row(value):
    """Whether the value is a row of letters and opposites."""
    return isinstance(value, str) and (value == "" or (value.isascii() and value.isalpha()))


def opposite(row):
    """The row with the opposites of its signs from behind."""
    _need_row(row)
    return row[::-1].swapcase()


def short(row):
    """The short row of a row."""
    _need_row(row)
    kept = []
    for sign in row:
        if kept and kept[-1] == sign.swapcase():
            kept.pop()
        else:
            kept.append(sign)
    return "".join(kept)


def are_alike(one, other):
    """Whether two rows have equal short rows."""
    _need_row(one)
    _need_row(other)
    return short(one) == short(other)


def way(machine, one, other):
    """The first word that leads from one state to another one, or None."""
    need_machines((machine,))
    need_number(one, 0, len(machine) - 1)
    need_number(other, 0, len(machine) - 1)
    return way_between(machine.letters, machine.table, one, other)


def signed_steps(machine):
    """The ascending tuple of the triples of all steps and back steps."""
    need_machines((machine,))
    knots = {state: knot for knot in knots_of(machine.table) for state in knot}
    steps = [(state, letter, after) for state, row in enumerate(machine.table)
             for letter, after in zip(machine.letters, row)]
    backs = [(after, letter.upper(), state) for state, letter, after in steps if after in knots[state]]
    return tuple(sorted(steps + backs))


def is_walk(machine, value):
    """Whether the value is a walk of a machine, from whichever state."""
    need_machines((machine,))
    if not isinstance(value, tuple) or not all([_is_triple(machine, step) for step in value]):
        return False
    steps = {step: True for step in signed_steps(machine)}
    if not all([step in steps for step in value]):
        return False
    return all([value[at][2] == value[at + 1][0] for at in range(len(value) - 1)])


def is_full_walk(machine, value):
    """Whether the value is a walk of a machine from the state 0 to an end."""
    if not is_walk(machine, value):
        return False
    if value == ():
        return 0 in machine.ends
    return value[0][0] == 0 and value[-1][2] in machine.ends


def row_of(machine, walk):
    """The row of a walk."""
    _need_walk(machine, walk)
    return "".join([sign for _, sign, _ in walk])


def back_steps(machine, walk):
    """The ascending tuple of the indices of the back steps of a walk."""
    _need_walk(machine, walk)
    return tuple([at for at, (_, sign, _) in enumerate(walk) if sign.isupper()])


def stand_in(machine, walk, number):
    """The stand-in of a walk: a word that leads turners as the steps do if back steps lead back."""
    _need_walk(machine, walk)
    need_number(number, 1, _MAX_REPEATED)
    return _stand_in(machine, walk, number)


def is_turners_blur(one, other, value):
    """Whether the value is a blur of two machines for the turners."""
    need_two(one, other)
    if is_word_blur(one, other, value):
        return True
    if not isinstance(value, tuple) or len(value) != 3 or value[0] != "walks":
        return False
    _, first, second = value
    if not is_full_walk(one, first) or not is_full_walk(other, second):
        return False
    return are_alike(row_of(one, first), row_of(other, second))


def turners_words(one, other, blur, number):
    """Any words of both machines that each turner with this number, or a lesser one, leads alike."""
    if not is_turners_blur(one, other, blur):
        raise InvalidOperation("no blur of the machines for the turners")
    need_number(number, 1, _MAX_NUMBER)
    if blur[0] == "word":
        return blur[1], blur[1]
    # By so many times each word leads each place of all these turners to itself.
    times = common_multiple(number)
    return _stand_in(one, blur[1], times), _stand_in(other, blur[2], times)


def _need_row(row):
    if not is_row(row):
        raise InvalidWord("no row of signs")


def _need_walk(machine, walk):
    if not is_walk(machine, walk):
        raise InvalidOperation("no walk of the machine")


def _is_triple(machine, value):
    """Whether the value is a triple of a state, a sign and a state."""
    if not isinstance(value, tuple) or len(value) != 3 or not is_row(value[1]):
        return False
    return is_number(value[0], 0, len(machine) - 1) and is_number(value[2], 0, len(machine) - 1)


def _stand_in(machine, walk, number):
    ways = {step: way_between(machine.letters, machine.table, step[0], step[2])
            for step in walk if step[1].isupper()}
    length = 0
    for step in walk:
        length += 1 if step not in ways else len(ways[step]) + (1 + len(ways[step])) * (number - 1)
    if length > MAX_LENGTH:
        raise TooMany(MAX_LENGTH)
    parts = [step[1] if step not in ways else ways[step] + (step[1].lower() + ways[step]) * (number - 1)
             for step in walk]
    return "".join(parts)
