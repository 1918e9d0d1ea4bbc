"""What the tests share: slow and plain readings of the document, and values of wrong kinds."""

import itertools
import math
import random
import re

from watchkinds.base.machines import Machine
from watchkinds.boxes.boxes import Box
from watchkinds.errors import InvalidWord, TooMany
from watchkinds.ladder.sorts import SORTS
from watchkinds.room.room import Room

EVEN = Machine("ab", ((1, 0), (0, 1)), (0,))
ODD = Machine("ab", ((1, 0), (0, 1)), (1,))
CLOSES = Machine("ab", ((1, 0), (1, 0)), (1,))
OPENS = Machine("ab", ((1, 2), (1, 1), (2, 2)), (1,))
SOME = Machine("ab", ((1, 0), (1, 1)), (1,))
NONE = Machine("ab", ((1, 0), (1, 1)), (0,))
LATCH = Box("ab", ((1, 0), (1, 1)))
SWITCH = Box("ab", ((1, 0), (0, 1)))

TWELVE = 10 ** 12 - 1


def deep(value, depth):
    """The value within so many tuples, lists and dicts."""
    for at in range(depth):
        value = ((value,), [value], {"a": value})[at % 3]
    return value


# One value of each kind that [0.4] tells, many of them just beside a right one.
VALUES = [
    True, False, None, 0, 1, 2, 3, 4, 5, 6, 7, 8, 12, 13, 20, 21, 40, 41, 60, 61, 400, 401, -1, -2, 10 ** 11,
    10 ** 11 + 1, TWELVE, 10 ** 40 - 1, 1 - 10 ** 40, "", "a", "b", "ab", "ba", "aa", "abc", "abcd", "z", "A", "aB", "a\n", "\n", " ",
    "a b", "a1", "1", "-", "any", "last", "clerks", "Any", "x" * 400, "{}", (), (0,), (1,), (0, 1), (1, 0), (0, 0),
    (True,), (False, True), ("a",), ("ab", "a"), ("A",), (None,), ((),), ((0,),), ((0, 0),), ((0, 1), (1, 0)),
    ((True, False), (False, True)), [], [0], ["a"], [[0, 0]], [(0, 0)], ([0, 0],), {}, {"a": "b"}, {0: 1}, {"a": 0},
    {None: None}, {(0,): 0}, (EVEN,), [EVEN], {"a": EVEN}, EVEN, ODD, Machine("a", ((0,),)), (EVEN, "a"),
    (("",), ("a",)), ("a", 0), deep(None, 10), deep(EVEN, 10), deep(True, 9), deep("a", 10),
    LATCH, SWITCH, Box("a", ((0,),)), (LATCH,), [LATCH], {"a": LATCH}, (EVEN, LATCH), deep(LATCH, 10), ("last", "any"),
    ["last", "any"], ("any", "last"), ("any", "any"), ("turn", 0, "a"), ("swap", 0, "a", "b"), ("merge", 0, 1, "a"),
    ("rings", 0, "", "a", "b"), ("left", 0, "b", "a"), ("ring", 0, "a", "a"), ("apart", 0, "a", "b"),
    (((0, 0),), ((0, 0),)), (((0, 0), (1, 1)), ((0, 0), (1, 1))),
    ((2, 0, ({(): 1}, {})),), ((2, 0, ({(): 1},)),), ((2, 0, ({(): True}, {})),), ((2, 0, [{}, {}]),),
    ((3, 0, ({(): (1, 2, 0)}, {})),), ((2, 0, ({}, {})), (2, 1, ({(1,): (1, 0)}, {(0,): 0}))), ((2, 0, ({}, {})),) * 2,
    (((2, 0, ({(): 1}, {})),), (0, 1)), ((), (0,)), ((), ()), (0, 1, 2), ((0, 1),), ((0, 1), (0, 0)),
    ("word", "a"), ("word", "b"), ("word", ""), ("word",), ("word", None), ("word", EVEN), ["word", "b"],
    ("end", "", "a", "b", ""), ("end", "", "a", "", ""), ("end", "", "", "b", "a"), ("begin", "", "b", "", "a"),
    ("begin", "", "b", "a", ""), ("number", 0, ((0, 0),)), ("number", 1, ((0, 0), (1, 1))), ("blur", ("word", "a")),
    ("blur", ("end", "", "a", "b", "")), ("blur", None), ("blocks", ()), ("blocks", (("letter", "a"),)),
    ("blocks", (("block", ("", "ab", "a"), ("", "ab", "")),)), (("block", ("", "ab", "a"), ("", "ab", "")),),
    (("letter", "a"), ("letter", "b")), (("letter", "ab"),), (("block", ("", "a", ""), ("", "b", "")),),
    ((0, 1), (0, 1)), ((0, 0), (0, 2)), ((0, 1), (0, 1, 2)), ((0, 1, 2, 3), (0,)), ((0, True), (0, 1)), [(0, 1), (0, 1)],
    (((0, 1), (0, 1)),), (((0, 1), (0, 1)), ((1, 0), (1, 0))), (((1, 0), (1, 0)), ((0, 1), (0, 1))),
    ((((0, 1), (0, 1)),),), ((((0, 1), (0, 1)), ((1, 0), (1, 0))),), (("word", "a"),), (("word", "a"), ("often", 0)),
    (("word", "a"), ("both", 0, 0)), (("often", 0),), (("word", "a"), ("often", 1)), (("word", "a"), ("often", False)),
    ("recipe", (("word", "a"), ("often", 0))), ("recipe", (("word", "a"),)), ("recipe", ()), ("recipe", None),
    ("walks", (), ()), ("walks", ((0, "a", 1),), ((0, "a", 1),)), ("counts", "", ("", ()), ("", ())),
    ("counts", "ab", ("", ()), ("a", ((1, "a", -1),))), ("counts", "ba", ("", ()), ("", ())), ("last",), ("any",),
    {"last": None}, {"any": ("word", "a")}, {sort: None for sort in SORTS}, {sort: ("word", "a") for sort in SORTS},
    "word a", "end - a b -", "recipe 1\nword a", "machine a 1\nstate 0\nends -", "box a 1\nplace 0", "row a 0",
    Room("ab"), Room("a").attempt(), (Room("ab"),), InvalidWord("a"), TooMany(4), (EVEN, ODD), (EVEN, ODD, EVEN),
    (EVEN, Machine("a", ((0,),))), (LATCH, SWITCH), (LATCH, Box("a", ((0,),))), "even", "abcdefgh", "abcdefghi",
]


def is_plain_word(value):
    return isinstance(value, str) and re.fullmatch("[a-z]*", value) is not None


def is_plain_letters(value):
    return is_plain_word(value) and 1 <= len(value) <= 3 and list(value) == sorted(set(value))


def is_plain_number(value, least, most):
    return type(value) is int and least <= value <= most


def is_machine(value):
    return isinstance(value, Machine)


def is_box(value):
    return isinstance(value, Box)


def number_from(least, most):
    return lambda value: is_plain_number(value, least, most)


class Argument:
    """A parameter: a good value, which values are good, the error of others, and the name of what it keeps."""

    def __init__(self, good, is_good, error, keeps=None):
        self.good = good
        self.is_good = is_good
        self.error = error
        self.keeps = keeps

    def wrong(self):
        return [value for value in VALUES if not self.is_good(value)]


def check_error(test, call, values, error, keeps=None, kept=None):
    """The call raises just this error, not one of another class, and it keeps what it should."""
    try:
        result = call(*values)
    except Exception as found:
        test.assertIs(type(found), error, f"{values!r} raised {found!r}")
        if keeps is not None:
            test.assertEqual((type(getattr(found, keeps)), getattr(found, keeps)), (type(kept), kept))
        return
    test.fail(f"{values!r} gave {result!r} instead of {error}")


def check_arguments(test, call, arguments):
    """Each wrong value of each argument raises its error, and the first one of several wrong ones counts."""
    goods = [argument.good for argument in arguments]
    for at, argument in enumerate(arguments):
        for wrong in argument.wrong():
            values = goods[:at] + [wrong] + goods[at + 1:]
            check_error(test, call, values, argument.error, argument.keeps, wrong)
    some = random.Random(1)
    for one, other in itertools.combinations(range(len(arguments)), 2):
        for _ in range(40):
            values = list(goods)
            values[one] = some.choice(arguments[one].wrong())
            for later in range(other, len(arguments)):
                values[later] = some.choice(arguments[later].wrong())
            first = arguments[one]
            check_error(test, call, values, first.error, first.keeps, values[one])


def words_up_to(letters, most):
    """All words by length, then by Python's order."""
    return ["".join(word) for size in range(most + 1) for word in itertools.product(letters, repeat=size)]


def led_to(thing, word, start=0):
    """Where a word leads in a machine or a box, letter by letter."""
    for letter in word:
        start = thing.table[start][thing.letters.index(letter)]
    return start


def language(machine, most):
    """The list of the words of a machine, the first one first."""
    layer = [("", 0)]
    found = []
    for _ in range(most + 1):
        found.extend(word for word, state in layer if state in machine.ends)
        layer = [(word + letter, after) for word, state in layer
                 for letter, after in zip(machine.letters, machine.table[state])]
    return found


def plain_pieces(word, most):
    """All pieces of a word, by leaving out letters in each way."""
    found = {"".join(kept) for size in range(most + 1) for kept in itertools.combinations(word, size)}
    return sorted(found, key=lambda piece: (len(piece), piece))


def all_machines(letters, states):
    """All machines with so many states."""
    rows = list(itertools.product(range(states), repeat=len(letters)))
    for table in itertools.product(rows, repeat=states):
        for many in range(states + 1):
            for ends in itertools.combinations(range(states), many):
                yield Machine(letters, table, ends)


def random_table(some, width, rows):
    return tuple(tuple(some.randrange(rows) for _ in range(width)) for _ in range(rows))


def random_machine(some, letters, states):
    ends = tuple(state for state in range(states) if some.random() < 0.4)
    return Machine(letters, random_table(some, len(letters), states), ends)


def some_machines(letters, many, seed, states=(1, 2, 3, 4)):
    """So many machines, the same ones each time."""
    some = random.Random(seed)
    return [random_machine(some, letters, states[at % len(states)]) for at in range(many)]


def random_box(some, letters, places):
    return Box(letters, random_table(some, len(letters), places))


def some_boxes(letters, many, seed, places=(1, 2, 3, 4, 5, 6)):
    """So many boxes, the same ones each time."""
    some = random.Random(seed)
    return [random_box(some, letters, places[at % len(places)]) for at in range(many)]


def all_boxes(letters, places):
    """All boxes with so many places."""
    rows = list(itertools.product(range(places), repeat=len(letters)))
    return [Box(letters, table) for table in itertools.product(rows, repeat=places)]


def check_least(test, machine):
    """A machine is its least one, seen by the words that lead from its states to ends."""
    order = [0]
    for state in order:
        order.extend(after for after in dict.fromkeys(machine.table[state]) if after not in order)
    test.assertEqual(order, list(range(len(machine.table))), "not numbered by first words, or not all reached")
    apart = {(one, other) for one in order for other in order if (one in machine.ends) != (other in machine.ends)}
    size = -1
    while len(apart) > size:
        size = len(apart)
        apart |= {(one, other) for one in order for other in order
                  if any(pair in apart for pair in zip(machine.table[one], machine.table[other]))}
    test.assertEqual(size, len(order) * (len(order) - 1), "two states with the same words")


def cancelled(some, row):
    """A row after cancelling neighbours in whatever order, until none are left that cancel."""
    while True:
        places = [at for at in range(len(row) - 1) if row[at] != row[at + 1] and row[at].lower() == row[at + 1].lower()]
        if not places:
            return row
        at = some.choice(places)
        row = row[:at] + row[at + 2:]


def leads(machine, one, other):
    """Whether some word leads from the one state to the other one."""
    queue = [one]
    for state in queue:
        queue.extend(after for after in machine.table[state] if after not in queue)
    return other in queue


def plain_steps(machine):
    """All steps, and the back steps of those that lie in a knot."""
    found = set()
    for state, row in enumerate(machine.table):
        for letter, after in zip(machine.letters, row):
            found.add((state, letter, after))
            if leads(machine, after, state):
                found.add((after, letter.upper(), state))
    return found


def is_plain_walk(machine, value):
    if type(value) is not tuple or any(type(step) is not tuple or len(step) != 3 for step in value):
        return False
    for state, sign, after in value:
        if type(state) is not int or type(after) is not int or type(sign) is not str:
            return False
        if (state, sign, after) not in plain_steps(machine):
            return False
    return all(one[2] == other[0] for one, other in zip(value, value[1:]))


def random_turner(some, letters, places):
    columns = [some.sample(range(places), places) for _ in letters]
    return Box(letters, tuple(zip(*columns)))


def turner_number(box):
    """The least number of times that each word leads each place to itself, by all actions of words."""
    found = [tuple(range(len(box.table)))]
    for action in found:
        for column in range(len(box.letters)):
            after = tuple(box.table[place][column] for place in action)
            if after not in found:
                found.append(after)
    number = 1
    for action in found:
        for place in range(len(action)):
            size, at = 1, action[place]
            while at != place:
                size, at = size + 1, action[at]
            number = math.lcm(number, size)
    return number


def mixed_table(some, width, rows):
    """A table of columns of many kinds: rearrangements, resets, columns that keep all, and any."""
    columns = []
    for _ in range(width):
        kind = some.choice(("turn", "turn", "reset", "keep", "any", "any"))
        if kind == "turn":
            columns.append(some.sample(range(rows), rows))
        elif kind == "reset":
            columns.append([some.randrange(rows)] * rows)
        else:
            columns.append(list(range(rows)) if kind == "keep" else [some.randrange(rows) for _ in range(rows)])
    return tuple(zip(*columns))


def parted(some, letters, states):
    """Two machines with one table and different ends, so that they have no word in common."""
    table = mixed_table(some, len(letters), states)
    order = some.sample(range(states), states)
    cut = some.randint(1, max(1, states - 1))
    return tuple(Machine(letters, table, tuple(sorted(ends))) for ends in (order[:cut][:2], order[cut:]))


def some_pairs(many, seed, states=(2, 3, 4), alphabets=("a", "ab", "abc")):
    """So many pairs of machines with the same letters, the same ones each time; most have no word in common."""
    some = random.Random(seed)
    found = []
    while len(found) < many:
        letters = some.choice(alphabets)
        one, other = parted(some, letters, some.choice(states))
        if some.random() < 0.4:
            table = mixed_table(some, len(letters), some.choice(states))
            other = Machine(letters, table, (some.randrange(len(table)),))
            if some.random() < 0.8:
                other = other - one
        if len(other) <= max(states):
            found.append((one, other))
    return found


def plain_common_word(one, other, most):
    """The first word that both have, among all words of at most so many letters, or None."""
    queue = [("", 0, 0)]
    met = set()
    for word, left, right in queue:
        if (left, right) in met or len(word) > most:
            continue
        met.add((left, right))
        if left in one.ends and right in other.ends:
            return word
        queue.extend((word + letter, after, further)
                     for letter, after, further in zip(one.letters, one.table[left], other.table[right]))
    return None


def size_of(value):
    """How many tuples, lists and dicts there are in a value, and the letters of its longest word."""
    if isinstance(value, str):
        return 0, len(value)
    if not isinstance(value, (tuple, list, dict)):
        return 0, 0
    parts = [size_of(part) for part in (list(value.items()) if isinstance(value, dict) else value)]
    return 1 + sum(many for many, _ in parts), max([longest for _, longest in parts], default=0)


def check_small(test, value):
    """A returned paper keeps the bounds of [0.6]."""
    many, longest = size_of(value)
    test.assertLessEqual(many, 2000)
    test.assertLessEqual(longest, 400)


def check_just_one(test, one, other, blur, paper, told):
    """Just one is there, a blur or a clear paper, within the bounds of [0.6]; whether the paper is."""
    test.assertEqual((blur is None, paper is not None), (told, told))
    if told:
        test.assertIsNone(plain_common_word(one, other, 20))
    check_small(test, paper if told else blur)
    return told
