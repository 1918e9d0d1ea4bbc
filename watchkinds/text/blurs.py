"""Blurs as lines: the lines of what has the form of a blur, and the blur that lines tell."""

from watchkinds.base.values import ascends, is_number, is_pair
from watchkinds.base.words import is_word
from watchkinds.errors import ParseError
from watchkinds.text.fields import (is_count, is_letter_field, is_signed, is_step_text, line_of, read_ascending,
                                    read_letter, read_number, read_signed, read_step, read_word, word_field)
from watchkinds.text.lines import each

_MANY_WORDS = {"word": 1, "end": 4, "begin": 4}

# How many indices of earlier steps a step of a recipe tells.
_MANY_INDICES = {"both": 2, "often": 1}


def blur_lines(value):
    """The lines of a blur, or None if the value has no form of a blur."""
    if not isinstance(value, tuple) or value == () or not isinstance(value[0], str) or value[0] not in _WRITERS:
        return None
    writer = _WRITERS[value[0]]
    return writer(value)


def blur_of_lines(lines):
    """The blur that lines tell."""
    name = lines.next_line().split(" ")[0]
    if name not in _READERS:
        raise ParseError(lines.at)
    reader = _READERS[name]
    return lines.all_read(reader(lines, name))


def _words_lines(value):
    if not _are_words(value[1:], _MANY_WORDS[value[0]]):
        return None
    return [_words_line(value[0], value[1:])]


def _blocks_lines(value):
    if not is_pair(value) or not isinstance(value[1], tuple):
        return None
    return _joined("blocks", [len(value[1])], [_path_line(step) for step in value[1]])


def _path_line(step):
    """The line of a step of a path, or None."""
    if is_pair(step) and step[0] == "letter" and is_letter_field(step[1]):
        return _words_line("letter", step[1:])
    if not isinstance(step, tuple) or len(step) != 3 or step[0] != "block":
        return None
    if not all([isinstance(side, tuple) and _are_words(side, 3) for side in step[1:]]):
        return None
    left, right = [[word_field(word) for word in side] for side in step[1:]]
    return line_of("block", [*left, "/", *right])


def _counts_lines(value):
    if len(value) != 4 or not is_word(value[1]) or not ascends(value[1]):
        return None
    sides = [_side_lines(side) for side in value[2:]]
    return None if None in sides else [_words_line("counts", value[1:2])] + sides[0] + sides[1]


def _side_lines(side):
    """The lines of a side with its rings, or None."""
    if not is_pair(side) or not is_word(side[0]) or not isinstance(side[1], tuple):
        return None
    return _joined("side", [word_field(side[0]), len(side[1])], [_ring_line(ring) for ring in side[1]])


def _ring_line(ring):
    if not isinstance(ring, tuple) or len(ring) != 3:
        return None
    at, word, times = ring
    if not is_count(at) or not is_word(word) or not is_signed(times):
        return None
    return line_of("ring", [at, word_field(word), times])


def _walks_lines(value):
    if len(value) != 3:
        return None
    return _joined("walks", [], [_walk_line(walk) for walk in value[1:]])


def _walk_line(walk):
    """The line of a walk, or None."""
    if not isinstance(walk, tuple):
        return None
    steps = [_step_field(step) for step in walk]
    return None if None in steps else line_of("walk", steps if steps else ["-"])


def _step_field(step):
    """The field of a step of a walk, or None."""
    if not isinstance(step, tuple) or len(step) != 3 or not isinstance(step[1], str):
        return None
    if not is_number(step[0], 0, 9) or not is_number(step[2], 0, 9):
        return None
    field = f"{step[0]}{step[1]}{step[2]}"
    return field if is_step_text(field) else None


def _recipe_lines(value):
    if not is_pair(value) or not isinstance(value[1], tuple):
        return None
    return _joined("recipe", [len(value[1])], [_recipe_line(step, at) for at, step in enumerate(value[1])])


def _recipe_line(step, at):
    """The line of a step of a recipe, or None."""
    if is_pair(step) and step[0] == "word" and is_word(step[1]):
        return _words_line("word", step[1:])
    if not isinstance(step, tuple) or step == () or not isinstance(step[0], str) or step[0] not in _MANY_INDICES:
        return None
    if len(step) != 1 + _MANY_INDICES[step[0]] or not all([is_number(index, 0, at - 1) for index in step[1:]]):
        return None
    return line_of(step[0], step[1:])


def _joined(name, fields, lines):
    """The line with these fields and the lines behind it, or None if one of these is None."""
    return None if None in lines else [line_of(name, fields)] + lines


def _are_words(values, many):
    return len(values) == many and all([is_word(value) for value in values])


def _words_line(name, words):
    return line_of(name, [word_field(word) for word in words])


def _read_words(lines, name):
    words = lines.taken(each([read_word] * _MANY_WORDS[name], lines.fields(name)))
    return (name, *words)


def _read_blocks(lines, name):
    many = lines.taken(each([read_number], lines.fields(name)))[0]
    return name, tuple([_read_path_step(lines) for _ in range(many)])


def _read_path_step(lines):
    if lines.begins("letter"):
        return "letter", lines.taken(each([read_letter], lines.fields("letter")))[0]
    fields = lines.fields("block")
    words = None if fields[3:4] != ["/"] else each([read_word] * 6, fields[:3] + fields[4:])
    taken = tuple(lines.taken(words))
    return "block", taken[:3], taken[3:]


def _read_counts(lines, name):
    large = lines.taken(each([read_ascending], lines.fields(name)))[0]
    left = _read_side(lines)
    return name, large, left, _read_side(lines)


def _read_side(lines):
    word, many = lines.taken(each([read_word, read_number], lines.fields("side")))
    readers = [read_number, read_word, read_signed]
    return word, tuple([tuple(lines.taken(each(readers, lines.fields("ring")))) for _ in range(many)])


def _read_walks(lines, name):
    lines.taken(each([], lines.fields(name)))
    first = _read_walk(lines)
    return name, first, _read_walk(lines)


def _read_walk(lines):
    fields = lines.fields("walk")
    if fields == ["-"]:
        return tuple(lines.taken([]))
    return tuple(lines.taken([read_step(field) for field in fields] if fields else None))


def _read_recipe(lines, name):
    many = lines.taken(each([read_number], lines.fields(name)))[0]
    return name, tuple([_read_recipe_step(lines, at) for at in range(many)])


def _read_recipe_step(lines, at):
    name = lines.next_line().split(" ")[0]
    if name not in _MANY_INDICES:
        return "word", lines.taken(each([read_word], lines.fields("word")))[0]
    indices = each([read_number] * _MANY_INDICES[name], lines.fields(name))
    is_earlier = indices is not None and None not in indices and max(indices) < at
    taken = lines.taken(indices if is_earlier else None)
    return (name, *taken)


_WRITERS = {
    "word": _words_lines,
    "end": _words_lines,
    "begin": _words_lines,
    "blocks": _blocks_lines,
    "counts": _counts_lines,
    "walks": _walks_lines,
    "recipe": _recipe_lines,
}

_READERS = {
    "word": _read_words,
    "end": _read_words,
    "begin": _read_words,
    "blocks": _read_blocks,
    "counts": _read_counts,
    "walks": _read_walks,
    "recipe": _read_recipe,
}
