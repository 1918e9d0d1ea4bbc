"""The bars of boxes: the first one that is there, for each sort, and the tests of what should be one."""

from watchkinds.base.tables import knots_of, led, numbered, paired, ring_at, way_between, ways, word_along
from watchkinds.base.values import is_number
from watchkinds.base.words import is_letter, is_over, is_word
from watchkinds.ladder.actions import columns_of, turned_place


def blends(table):
    """For each number, from 0 on, the groups of places that all words of so many letters lead alike.

    The last groups are those that no greater number makes greater.
    """
    found = [list(range(len(table)))]
    while True:
        groups = found[-1]
        wider = numbered([tuple([groups[after] for after in row]) for row in table])
        if max(wider) == max(groups):
            return found
        found.append(wider)


def _rings_bar(letters, table):
    groups = blends(table)[-1]
    for place, row in enumerate(table):
        for after in row:
            if groups[place] != groups[after]:
                return _rings_from(letters, table, groups, place, after)
    return None


def _rings_from(letters, table, groups, place, after):
    """The bar to which two places of unlike groups lead, if they are led on in unlike groups."""
    one, other = place, after
    met = {}
    while (one, other) not in met:
        met[(one, other)] = True
        one, other = [pair for pair in zip(table[one], table[other]) if groups[pair[0]] != groups[pair[1]]][0]
    ring = ring_at(letters, paired(table, table, (one, other))[1], 0)
    return ("rings", place, way_between(letters, table, place, one), way_between(letters, table, place, other), ring)


def _left_bar(letters, table):
    shared = {place: True for knot in knots_of(table) if len(knot) > 1 for place in knot}
    for place, row in enumerate(table):
        leaving = [letter for letter, after in zip(letters, row) if after != place]
        if leaving and (place in shared or place in row):
            return ("left", place, ring_at(letters, table, place), leaving[0])
    return None


def _swap_bar(letters, table):
    for one in range(len(letters)):
        for other in range(one + 1, len(letters)):
            for place, row in enumerate(table):
                if table[row[one]][other] != table[row[other]][one]:
                    return ("swap", place, letters[one], letters[other])
    return None


def _letter_turn_bar(letters, table):
    for letter, action in zip(letters, columns_of(table)):
        place = turned_place(action)
        if place is not None:
            return ("turn", place, letter)
    return None


def _merge_bar(letters, table):
    for letter, action in zip(letters, columns_of(table)):
        held = {}
        for place, after in enumerate(action):
            if after in held:
                return ("merge", held[after], place, letter)
            held[after] = place
    return None


def _ring_bar(letters, table):
    for knot in knots_of(table):
        if len(knot) > 1:
            one, other = knot[0], knot[1]
            return ("ring", one, way_between(letters, table, one, other), way_between(letters, table, other, one))
    return None


def _apart_bar(letters, table):
    """The bar of a box without a ring between places."""
    for one in range(len(letters)):
        for other in range(one + 1, len(letters)):
            part = tuple([(row[one], row[other]) for row in table])
            still = _stilled(part)
            parted = [place for place, row in enumerate(part) if still[row[0]] != still[row[1]]]
            if parted:
                # From the one that leads to the fewest places no other one is reached: both letters lead it
                # to places that are each stilled in one way only.
                place = min(parted, key=lambda start: len(ways(part, start)))
                return ("apart", place, letters[one], letters[other])
    return None


def _stilled(part):
    """For each place a place that both letters leave alone, to which they lead by turns."""
    action = tuple([part[row[0]][1] for row in part])
    still = tuple([action[after] for after in action])
    while still != action:
        action = still
        still = tuple([action[after] for after in action])
    return still


_FINDERS = {
    "last": (_rings_bar,),
    "first": (_left_bar,),
    "caps": (_swap_bar, _letter_turn_bar),
    "sums": (_swap_bar, _merge_bar),
    "clerks": (_swap_bar,),
    "pieces": (_ring_bar, _apart_bar),
    "turners": (_merge_bar,),
    "any": (),
}


def found_bar(letters, table, sort):
    """A bar of a box for a sort other than the latches, or None."""
    for finder in _FINDERS[sort]:
        found = finder(letters, table)
        if found is not None:
            return found
    return None


def found_turn(letters, actions, rows):
    """A bar of a box for the latches, or None, from all actions of words and the table of these."""
    for at, action in enumerate(actions):
        place = turned_place(action)
        if place is not None:
            return ("turn", place, word_along(letters, ways(rows, 0), at))
    return None


def _is_rings(letters, table, parts):
    if len(parts) != 4 or not _is_place(table, parts[0]) or not all([_is_way(letters, part) for part in parts[1:]]):
        return False
    place, one, other, ring = parts
    left = led(letters, table, one, place)
    right = led(letters, table, other, place)
    if ring == "" or left == right:
        return False
    return led(letters, table, ring, left) == left and led(letters, table, ring, right) == right


def _is_left(letters, table, parts):
    if len(parts) != 3 or not _is_place(table, parts[0]) or not _is_way(letters, parts[1]):
        return False
    place, ring, letter = parts
    if ring == "" or not is_letter(letters, letter):
        return False
    return led(letters, table, ring, place) == place and led(letters, table, letter, place) != place


def _is_swap(letters, table, parts):
    if len(parts) != 3 or not _is_place(table, parts[0]) or not all([is_letter(letters, part) for part in parts[1:]]):
        return False
    place, letter, other = parts
    return led(letters, table, letter + other, place) != led(letters, table, other + letter, place)


def _is_turn(letters, table, parts):
    if len(parts) != 2 or not _is_place(table, parts[0]) or not _is_way(letters, parts[1]):
        return False
    start, word = parts
    place = led(letters, table, word, start)
    if place == start:
        return False
    met = {start: True}
    while place not in met:
        met[place] = True
        place = led(letters, table, word, place)
    return place == start


def _is_merge(letters, table, parts):
    if len(parts) != 3 or not all([_is_place(table, part) for part in parts[:2]]) or not is_letter(letters, parts[2]):
        return False
    one, other, letter = parts
    return one < other and led(letters, table, letter, one) == led(letters, table, letter, other)


def _is_ring(letters, table, parts):
    if len(parts) != 3 or not _is_place(table, parts[0]) or not all([_is_way(letters, part) for part in parts[1:]]):
        return False
    start, one, other = parts
    place = led(letters, table, one, start)
    return place != start and led(letters, table, other, place) == start


def _is_apart(letters, table, parts):
    if len(parts) != 3 or not _is_place(table, parts[0]) or not all([is_letter(letters, part) for part in parts[1:]]):
        return False
    place, letter, other = parts
    if letter == other:
        return False
    part = tuple([(row[letters.index(letter)], row[letters.index(other)]) for row in table])
    return not any([one == two for one, two in paired(part, part, part[place])[0]])


_JUDGES = {
    "rings": _is_rings,
    "left": _is_left,
    "swap": _is_swap,
    "turn": _is_turn,
    "merge": _is_merge,
    "ring": _is_ring,
    "apart": _is_apart,
}

_FORMS = {
    "last": ("rings",),
    "first": ("left",),
    "caps": ("swap", "turn"),
    "sums": ("swap", "merge"),
    "clerks": ("swap",),
    "pieces": ("ring", "apart"),
    "latches": ("turn",),
    "turners": ("merge",),
    "any": (),
}


def is_bar_of(letters, table, sort, value):
    """Whether the value is a bar of a box for a sort."""
    if not isinstance(value, tuple) or value == () or not isinstance(value[0], str) or value[0] not in _FORMS[sort]:
        return False
    if sort == "caps" and value[0] == "turn" and not is_letter(letters, value[-1]):
        return False
    judge = _JUDGES[value[0]]
    return judge(letters, table, value[1:])


def _is_place(table, value):
    return is_number(value, 0, len(table) - 1)


def _is_way(letters, value):
    return is_word(value) and is_over(letters, value)
