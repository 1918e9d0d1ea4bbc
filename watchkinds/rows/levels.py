"""Rows of levels: where words lead them, and the boxes that they make."""

from watchkinds.base.machines import MAX_TIMES
from watchkinds.base.tables import Made, explored, led_often
from watchkinds.base.values import is_number, is_pair, need_number
from watchkinds.base.words import need_letters, need_over, need_word
from watchkinds.boxes.boxes import Box, need_box
from watchkinds.errors import InvalidOperation, TooMany

MAX_VALUES = 12
MAX_STANDS = 1000


def is_row_of(letters, value):
    """Whether the value is a row for a set of letters."""
    need_letters(letters)
    if not isinstance(value, tuple):
        return False
    ahead = []
    for level in value:
        if not _is_level(letters, ahead, level):
            return False
        ahead.append(level[0])
    return True


def resets_alone(letters, row):
    """Whether all entries of a row are resets."""
    _need_row(letters, row)
    return not any([isinstance(deed, tuple) for deed in _deeds(row)])


def rearranges_alone(letters, row):
    """Whether all entries of a row are rearrangements."""
    _need_row(letters, row)
    return all([isinstance(deed, tuple) for deed in _deeds(row)])


def stand_after(letters, row, word, *, times=1):
    """The stand to which a word, repeated so often, leads from the first stand."""
    _need_row(letters, row)
    need_word(word)
    need_number(times, 0, MAX_TIMES)
    need_over(letters, word)
    columns = [letters.index(letter) for letter in word]
    stand = []
    # What the levels ahead hold after 0, 1, .. words runs into a ring; it is known before a level is looked at,
    # so that the values of the last level need not be gone through one by one.
    met, entry = [()], 0
    for at, (_, first, _) in enumerate(row):
        moves = [{} for _ in letters]
        turns = [_word_turn(row[:at + 1], held, columns, moves) for held in met]
        stand.append(_value_at(turns, entry, first, times))
        if at + 1 < len(row):
            met, entry = _ring_with(met, entry, turns, first, times)
    return tuple(stand)


def stands(letters, row):
    """The reached stands, in the order of the first words that lead to them."""
    _need_row(letters, row)
    return tuple(_explored_stands(letters, row)[0])


def row_box(letters, row):
    """The box with a place for each reached stand, in the order of `stands`."""
    _need_row(letters, row)
    return Box(letters, Made(_explored_stands(letters, row)[1]))


def rows_beside(letters, one, other):
    """The row with the levels of the one and behind them those of the other one, each row as it is alone."""
    _need_row(letters, one)
    _need_row(letters, other)
    many = 1
    for level in one:
        many *= level[0]
    if many > MAX_STANDS:
        raise TooMany(MAX_STANDS)
    aheads = [()]
    for level in one:
        aheads = [ahead + (value,) for ahead in aheads for value in range(level[0])]
    return _behind(one, [()]) + _behind(other, aheads)


def is_row_paper(box, value):
    """Whether the value is a row paper of a box."""
    need_box(box)
    if not is_pair(value) or not is_row_of(box.letters, value[0]) or not isinstance(value[1], tuple):
        return False
    row, places = value
    if places == () or not all([is_number(place, 0, len(box) - 1) for place in places]) or places[0] != 0:
        return False
    return _leads_alike(box.table, row, places)


def value_after(deed, value):
    """The value that a deed, or None, makes of a value."""
    if deed is None:
        return value
    if isinstance(deed, tuple):
        return deed[value]
    return deed


def _need_row(letters, row):
    if not is_row_of(letters, row):
        raise InvalidOperation("no row for the set of letters")


def _is_level(letters, ahead, level):
    """Whether the value is a level behind levels with so many values each."""
    if not isinstance(level, tuple) or len(level) != 3:
        return False
    values, first, rules = level
    if not is_number(values, 2, MAX_VALUES) or not is_number(first, 0, values - 1):
        return False
    if not isinstance(rules, tuple) or len(rules) != len(letters):
        return False
    return all([_is_rule(ahead, values, rule) for rule in rules])


def _is_rule(ahead, values, rule):
    if not isinstance(rule, dict):
        return False
    return all([_is_key(ahead, key) and _is_deed(values, deed) for key, deed in rule.items()])


def _is_key(ahead, key):
    if not isinstance(key, tuple) or len(key) != len(ahead):
        return False
    return all([is_number(value, 0, many - 1) for value, many in zip(key, ahead)])


def _is_deed(values, deed):
    if not isinstance(deed, tuple):
        return is_number(deed, 0, values - 1)
    return all([is_number(value, 0, values - 1) for value in deed]) and sorted(deed) == list(range(values))


def _deeds(row):
    return [deed for _, _, rules in row for rule in rules for deed in rule.values()]


def _step(row, stand, column):
    """The stand to which a letter leads a stand."""
    return tuple([value_after(level[2][column].get(stand[:at], None), stand[at]) for at, level in enumerate(row)])


def _first_stand(row):
    return tuple([first for _, first, _ in row])


def _explored_stands(letters, row):
    return explored(list(range(len(letters))), _first_stand(row), lambda stand, column: _step(row, stand, column),
                    MAX_STANDS)


def _word_turn(levels, held, columns, moves):
    """What a word makes of each value of the last level, if those ahead of it hold this.

    For each letter a dict keeps where it leads the levels ahead, as words often come to the same.
    """
    ahead = levels[:-1]
    values, _, rules = levels[-1]
    turn = list(range(values))
    for column in columns:
        deed = rules[column].get(held, None)
        if deed is not None:
            turn = [value_after(deed, value) for value in turn]
        if held not in moves[column]:
            moves[column][held] = _step(ahead, held, column)
        held = moves[column][held]
    return turn


def _value_at(turns, entry, first, times):
    """The value of a level to which so many turns lead its first value: behind the last one, from `entry` on."""
    value = first
    for turn in turns[:times]:
        value = turn[value]
    if times <= len(turns):
        return value
    ring = turns[entry:]
    whole = list(range(len(turns[0])))
    for turn in ring:
        whole = [turn[after] for after in whole]
    value = led_often("a", [(after,) for after in whole], "a", value, (times - len(turns)) // len(ring))
    for turn in ring[:(times - len(turns)) % len(ring)]:
        value = turn[value]
    return value


def _ring_with(met, entry, turns, first, times):
    """What the levels hold together with one more, after each number of words up to `times`, and the new entry."""
    numbers = {(0, first): 0}
    path = [(0, first)]
    while True:
        at, value = path[-1]
        after = (at + 1 if at + 1 < len(met) else entry, turns[at][value])
        if after in numbers or len(path) > times:
            return [met[index] + (held,) for index, held in path], numbers.get(after, 0)
        numbers[after] = len(path)
        path.append(after)


def _behind(row, aheads):
    """The levels of a row, with each entry for each of these tuples of values of levels ahead of it."""
    return tuple([(values, first, tuple([_widened(rule, aheads) for rule in rules])) for values, first, rules in row])


def _widened(rule, aheads):
    keys = sorted(list(rule))
    return {ahead + key: rule[key] for ahead in aheads for key in keys}


def _leads_alike(table, row, places):
    """Whether these are places for the reached stands, in their order, that letters lead as the stands."""
    order = [_first_stand(row)]
    numbers = {order[0]: 0}
    done = 0
    while done < len(order):
        for column, after in enumerate(table[places[done]]):
            stand = _step(row, order[done], column)
            if stand not in numbers:
                if len(order) == len(places):
                    return False
                numbers[stand] = len(order)
                order.append(stand)
            if places[numbers[stand]] != after:
                return False
        done += 1
    return len(order) == len(places)
