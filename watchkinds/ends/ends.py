"""What the last and the first letters of words tell of two machines: blurs, numbers, papers."""

from watchkinds.base.joined import common_word, is_word_blur
from watchkinds.base.machines import need_two
from watchkinds.base.tables import leading, led, on_rings, paired, ring_at, way_between, way_to_any, ways
from watchkinds.base.values import are_pairs, is_number, is_pair, need_number
from watchkinds.base.words import is_over, is_word
from watchkinds.errors import InvalidOperation

MAX_NUMBER = 400

_MAX_MADE = 60


def last_number(one, other):
    """The least number that suffices for last letters, or None."""
    return None if last_blur(one, other) is not None else _least_last(one, other)[0]


def first_number(one, other):
    """The least number that suffices for first letters, or None."""
    return None if first_blur(one, other) is not None else _least_first(one, other)[0]


def last_blur(one, other):
    """Any blur for the last letters, or None."""
    need_two(one, other)
    word = common_word(one, other)
    if word is not None:
        return ("word", word)
    pairs, rows = _all_pairs(one, other)
    ends = _pairs_of_ends(one, other, pairs)
    rings = on_rings(rows)
    live = leading(rows, ends)
    for at, (left, right) in enumerate(pairs):
        if rings[at] and live[at]:
            letters = one.letters
            return ("end", way_between(letters, one.table, 0, left), way_between(letters, other.table, 0, right),
                    ring_at(letters, rows, at), way_to_any(letters, rows, at, ends))
    return None


def first_blur(one, other):
    """Any blur for the first letters, or None."""
    need_two(one, other)
    word = common_word(one, other)
    if word is not None:
        return ("word", word)
    pairs, rows = paired(one.table, other.table, (0, 0))
    rings = on_rings(rows)
    live = _live_pairs(one, other, pairs)
    for at, (left, right) in enumerate(pairs):
        if rings[at] and live[at]:
            letters = one.letters
            return ("begin", way_between(letters, rows, 0, at), ring_at(letters, rows, at),
                    way_to_any(letters, one.table, left, one.ends), way_to_any(letters, other.table, right, other.ends))
    return None


def is_last_blur(one, other, value):
    """Whether the value is a blur for the last letters."""
    need_two(one, other)
    if is_word_blur(one, other, value):
        return True
    if not _is_form(one.letters, "end", value):
        return False
    _, left, right, ring, on = value
    return _goes(one, left, ring, on) and _goes(other, right, ring, on)


def is_first_blur(one, other, value):
    """Whether the value is a blur for the first letters."""
    need_two(one, other)
    if is_word_blur(one, other, value):
        return True
    if not _is_form(one.letters, "begin", value):
        return False
    _, way, ring, left, right = value
    return _goes(one, way, ring, left) and _goes(other, way, ring, right)


def last_words(one, other, blur, number):
    """Any words of both machines that are equal, or long enough with the same last so many letters."""
    if not is_last_blur(one, other, blur):
        raise InvalidOperation("no blur for the last letters")
    need_number(number, 0, _MAX_MADE)
    if blur[0] == "word":
        return blur[1], blur[1]
    _, left, right, ring, on = blur
    middle = _long_enough(ring, number) + on
    return left + middle, right + middle


def first_words(one, other, blur, number):
    """Any words of both machines that are equal, or long enough with the same first so many letters."""
    if not is_first_blur(one, other, blur):
        raise InvalidOperation("no blur for the first letters")
    need_number(number, 0, _MAX_MADE)
    if blur[0] == "word":
        return blur[1], blur[1]
    _, way, ring, left, right = blur
    middle = way + _long_enough(ring, number)
    return middle + left, middle + right


def last_paper(one, other):
    """Any last paper; a number in it is the least one that suffices."""
    blur = last_blur(one, other)
    return ("blur", blur) if blur is not None else ("number",) + _least_last(one, other)


def first_paper(one, other):
    """Any first paper; a number in it is the least one that suffices."""
    blur = first_blur(one, other)
    return ("blur", blur) if blur is not None else ("number",) + _least_first(one, other)


def is_last_paper(one, other, value):
    """Whether the value is a last paper."""
    need_two(one, other)
    if is_pair(value) and value[0] == "blur":
        return is_last_blur(one, other, value[1])
    if not _is_number_paper(one, other, value):
        return False
    pairs, rows = _all_pairs(one, other)
    layer = _layer(rows, list(range(len(pairs))), value[1])
    return value[2] == _paper_pairs(pairs, layer) and not _meet(layer, _pairs_of_ends(one, other, pairs))


def is_first_paper(one, other, value):
    """Whether the value is a first paper."""
    need_two(one, other)
    if is_pair(value) and value[0] == "blur":
        return is_first_blur(one, other, value[1])
    if not _is_number_paper(one, other, value):
        return False
    pairs, rows = paired(one.table, other.table, (0, 0))
    layer = _layer(rows, [0], value[1])
    live = _live_pairs(one, other, pairs)
    return value[2] == _paper_pairs(pairs, layer) and not any([live[at] for at in layer])


def _all_pairs(one, other):
    """All pairs of a state of each machine to which words, perhaps different ones, lead, and their table."""
    pairs = [(left, right) for left in ways(one.table, 0) for right in ways(other.table, 0)]
    numbers = {pair: at for at, pair in enumerate(pairs)}
    rows = [tuple([numbers[after] for after in zip(one.table[left], other.table[right])]) for left, right in pairs]
    return pairs, tuple(rows)


def _pairs_of_ends(one, other, pairs):
    return [at for at, (left, right) in enumerate(pairs) if left in one.ends and right in other.ends]


def _live_pairs(one, other, pairs):
    """Whether words, perhaps different ones, lead both states of a pair to ends, for each pair."""
    left_live = leading(one.table, one.ends)
    right_live = leading(other.table, other.ends)
    return [left_live[left] and right_live[right] for left, right in pairs]


def _next_layer(rows, layer):
    return sorted(set([after for at in layer for after in rows[at]]))


def _layer(rows, layer, number):
    """The rows to which words of so many letters lead from the rows of a layer."""
    for _ in range(number):
        after = _next_layer(rows, layer)
        if after == layer:
            return layer
        layer = after
    return layer


def _least_last(one, other):
    """The least number that suffices, and its pairs; there is no blur."""
    pairs, rows = _all_pairs(one, other)
    ends = _pairs_of_ends(one, other, pairs)
    layer = list(range(len(pairs)))
    number = 0
    while _meet(layer, ends):
        layer = _next_layer(rows, layer)
        number += 1
    return number, _paper_pairs(pairs, layer)


def _least_first(one, other):
    """The least number that suffices, and its pairs; there is no blur."""
    pairs, rows = paired(one.table, other.table, (0, 0))
    live = _live_pairs(one, other, pairs)
    layer = [0]
    number = 0
    while any([live[at] for at in layer]):
        layer = _next_layer(rows, layer)
        number += 1
    return number, _paper_pairs(pairs, layer)


def _paper_pairs(pairs, layer):
    return tuple(sorted([pairs[at] for at in layer]))


def _meet(layer, others):
    held = {at: True for at in layer}
    return any([at in held for at in others])


def _is_form(letters, form, value):
    """Whether the value has the form of a blur: its name, and four words of the letters."""
    if not isinstance(value, tuple) or len(value) != 5 or value[0] != form:
        return False
    return all([is_word(word) and is_over(letters, word) for word in value[1:]])


def _goes(machine, way, ring, on):
    """Whether the first word leads to a state that the ring leads to itself, and the last one from there to an end."""
    state = led(machine.letters, machine.table, way, 0)
    if ring == "" or led(machine.letters, machine.table, ring, state) != state:
        return False
    return led(machine.letters, machine.table, on, state) in machine.ends


def _long_enough(ring, number):
    """The ring so often that it has at least so many letters."""
    return ring * ((number + len(ring) - 1) // len(ring))


def _is_number_paper(one, other, value):
    """Whether the value has the form of a paper with a number, and no word with fewer letters is in both machines."""
    if not isinstance(value, tuple) or len(value) != 3 or value[0] != "number":
        return False
    if not is_number(value[1], 0, MAX_NUMBER) or not are_pairs(value[2], len(one), len(other)):
        return False
    word = common_word(one, other)
    return word is None or len(word) >= value[1]
