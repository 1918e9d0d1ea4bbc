"""What the tests share: slow and plain readings of the document, and values of wrong kinds."""

import itertools
import random
import re

from watchkinds.base.machines import Machine
from watchkinds.boxes.boxes import Box

EVEN = Machine("ab", ((1, 0), (0, 1)), (0,))
ODD = Machine("ab", ((1, 0), (0, 1)), (1,))
CLOSES = Machine("ab", ((1, 0), (1, 0)), (1,))
OPENS = Machine("ab", ((1, 2), (1, 1), (2, 2)), (1,))
SOME = Machine("ab", ((1, 0), (1, 1)), (1,))
NONE = Machine("ab", ((1, 0), (1, 1)), (0,))
LATCH = Box("ab", ((1, 0), (1, 1)))
SWITCH = Box("ab", ((1, 0), (0, 1)))

TWELVE = 10 ** 12 - 1


def deep(value, depth):
    """The value within so many tuples, lists and dicts."""
    for at in range(depth):
        value = ((value,), [value], {"a": value})[at % 3]
    return value


# One value of each kind that [0.4] tells, many of them just beside a right one.
VALUES = [
    True, False, None, 0, 1, 2, 3, 4, 5, 6, 7, 8, 12, 13, 20, 21, 40, 41, 60, 61, 400, 401, -1, -2, 10 ** 11,
    10 ** 11 + 1, TWELVE, 10 ** 40 - 1, 1 - 10 ** 40, "", "a", "b", "ab", "ba", "aa", "abc", "abcd", "z", "A", "aB", "a\n", "\n", " ",
    "a b", "a1", "1", "-", "any", "last", "clerks", "Any", "x" * 400, "{}", (), (0,), (1,), (0, 1), (1, 0), (0, 0),
    (True,), (False, True), ("a",), ("ab", "a"), ("A",), (None,), ((),), ((0,),), ((0, 0),), ((0, 1), (1, 0)),
    ((True, False), (False, True)), [], [0], ["a"], [[0, 0]], [(0, 0)], ([0, 0],), {}, {"a": "b"}, {0: 1}, {"a": 0},
    {None: None}, {(0,): 0}, (EVEN,), [EVEN], {"a": EVEN}, EVEN, ODD, Machine("a", ((0,),)), (EVEN, "a"),
    (("",), ("a",)), ("a", 0), deep(None, 10), deep(EVEN, 10), deep(True, 9), deep("a", 10),
    LATCH, SWITCH, Box("a", ((0,),)), (LATCH,), [LATCH], {"a": LATCH}, (EVEN, LATCH), deep(LATCH, 10), ("last", "any"),
    ["last", "any"], ("any", "last"), ("any", "any"), ("turn", 0, "a"), ("swap", 0, "a", "b"), ("merge", 0, 1, "a"),
    ("rings", 0, "", "a", "b"), ("left", 0, "b", "a"), ("ring", 0, "a", "a"), ("apart", 0, "a", "b"),
    (((0, 0),), ((0, 0),)), (((0, 0), (1, 1)), ((0, 0), (1, 1))),
    ((2, 0, ({(): 1}, {})),), ((2, 0, ({(): 1},)),), ((2, 0, ({(): True}, {})),), ((2, 0, [{}, {}]),),
    ((3, 0, ({(): (1, 2, 0)}, {})),), ((2, 0, ({}, {})), (2, 1, ({(1,): (1, 0)}, {(0,): 0}))), ((2, 0, ({}, {})),) * 2,
    (((2, 0, ({(): 1}, {})),), (0, 1)), ((), (0,)), ((), ()), (0, 1, 2), ((0, 1),), ((0, 1), (0, 0)),
    ("word", "a"), ("word", "b"), ("word", ""), ("word",), ("word", None), ("word", EVEN), ["word", "b"],
    ("end", "", "a", "b", ""), ("end", "", "a", "", ""), ("end", "", "", "b", "a"), ("begin", "", "b", "", "a"),
    ("begin", "", "b", "a", ""), ("number", 0, ((0, 0),)), ("number", 1, ((0, 0), (1, 1))), ("blur", ("word", "a")),
    ("blur", ("end", "", "a", "b", "")), ("blur", None), ("blocks", ()), ("blocks", (("letter", "a"),)),
    ("blocks", (("block", ("", "ab", "a"), ("", "ab", "")),)), (("block", ("", "ab", "a"), ("", "ab", "")),),
    (("letter", "a"), ("letter", "b")), (("letter", "ab"),), (("block", ("", "a", ""), ("", "b", "")),),
]


def is_plain_word(value):
    return isinstance(value, str) and re.fullmatch("[a-z]*", value) is not None


def is_plain_letters(value):
    return is_plain_word(value) and 1 <= len(value) <= 3 and list(value) == sorted(set(value))


def is_plain_number(value, least, most):
    return type(value) is int and least <= value <= most


def is_machine(value):
    return isinstance(value, Machine)


def is_box(value):
    return isinstance(value, Box)


def number_from(least, most):
    return lambda value: is_plain_number(value, least, most)


class Argument:
    """A parameter: a good value, which values are good, the error of others, and the name of what it keeps."""

    def __init__(self, good, is_good, error, keeps=None):
        self.good = good
        self.is_good = is_good
        self.error = error
        self.keeps = keeps

    def wrong(self):
        return [value for value in VALUES if not self.is_good(value)]


def check_error(test, call, values, error, keeps=None, kept=None):
    """The call raises just this error, not one of another class, and it keeps what it should."""
    try:
        result = call(*values)
    except Exception as found:
        test.assertIs(type(found), error, f"{values!r} raised {found!r}")
        if keeps is not None:
            test.assertEqual((type(getattr(found, keeps)), getattr(found, keeps)), (type(kept), kept))
        return
    test.fail(f"{values!r} gave {result!r} instead of {error}")


def check_arguments(test, call, arguments):
    """Each wrong value of each argument raises its error, and the first one of several wrong ones counts."""
    goods = [argument.good for argument in arguments]
    for at, argument in enumerate(arguments):
        for wrong in argument.wrong():
            values = goods[:at] + [wrong] + goods[at + 1:]
            check_error(test, call, values, argument.error, argument.keeps, wrong)
    some = random.Random(1)
    for one, other in itertools.combinations(range(len(arguments)), 2):
        for _ in range(40):
            values = list(goods)
            values[one] = some.choice(arguments[one].wrong())
            for later in range(other, len(arguments)):
                values[later] = some.choice(arguments[later].wrong())
            first = arguments[one]
            check_error(test, call, values, first.error, first.keeps, values[one])


def words_up_to(letters, most):
    """All words by length, then by Python's order."""
    return ["".join(word) for size in range(most + 1) for word in itertools.product(letters, repeat=size)]


def led_to(thing, word, start=0):
    """Where a word leads in a machine or a box, letter by letter."""
    for letter in word:
        start = thing.table[start][thing.letters.index(letter)]
    return start


def language(machine, most):
    """The list of the words of a machine, the first one first."""
    layer = [("", 0)]
    found = []
    for _ in range(most + 1):
        found.extend(word for word, state in layer if state in machine.ends)
        layer = [(word + letter, after) for word, state in layer
                 for letter, after in zip(machine.letters, machine.table[state])]
    return found


def plain_pieces(word, most):
    """All pieces of a word, by leaving out letters in each way."""
    found = {"".join(kept) for size in range(most + 1) for kept in itertools.combinations(word, size)}
    return sorted(found, key=lambda piece: (len(piece), piece))


def all_machines(letters, states):
    """All machines with so many states."""
    rows = list(itertools.product(range(states), repeat=len(letters)))
    for table in itertools.product(rows, repeat=states):
        for many in range(states + 1):
            for ends in itertools.combinations(range(states), many):
                yield Machine(letters, table, ends)


def random_table(some, width, rows):
    return tuple(tuple(some.randrange(rows) for _ in range(width)) for _ in range(rows))


def random_machine(some, letters, states):
    ends = tuple(state for state in range(states) if some.random() < 0.4)
    return Machine(letters, random_table(some, len(letters), states), ends)


def some_machines(letters, many, seed, states=(1, 2, 3, 4)):
    """So many machines, the same ones each time."""
    some = random.Random(seed)
    return [random_machine(some, letters, states[at % len(states)]) for at in range(many)]


def random_box(some, letters, places):
    return Box(letters, random_table(some, len(letters), places))


def some_boxes(letters, many, seed, places=(1, 2, 3, 4, 5, 6)):
    """So many boxes, the same ones each time."""
    some = random.Random(seed)
    return [random_box(some, letters, places[at % len(places)]) for at in range(many)]


def all_boxes(letters, places):
    """All boxes with so many places."""
    rows = list(itertools.product(range(places), repeat=len(letters)))
    return [Box(letters, table) for table in itertools.product(rows, repeat=places)]


def check_least(test, machine):
    """A machine is its least one, seen by the words that lead from its states to ends."""
    order = [0]
    for state in order:
        order.extend(after for after in dict.fromkeys(machine.table[state]) if after not in order)
    test.assertEqual(order, list(range(len(machine.table))), "not numbered by first words, or not all reached")
    apart = {(one, other) for one in order for other in order if (one in machine.ends) != (other in machine.ends)}
    size = -1
    while len(apart) > size:
        size = len(apart)
        apart |= {(one, other) for one in order for other in order
                  if any(pair in apart for pair in zip(machine.table[one], machine.table[other]))}
    test.assertEqual(size, len(order) * (len(order) - 1), "two states with the same words")
