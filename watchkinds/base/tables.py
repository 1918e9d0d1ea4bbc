"""Tables of next rows, as machines and boxes have them: ways in them, and what is made of them.

A table is a tuple of rows; a row has the index of the next row for each column, that is, for each letter.
Operators and properties rest on most of these functions, so they change nothing but what they make.
"""

from watchkinds.errors import TooMany


class Made:
    """Rows that the package made itself: of these there can be more than callers may pass."""

    def __init__(self, rows):
        self.rows = rows


def led(letters, table, word, start):
    """The row to which a word leads from a row."""
    columns = {letter: at for at, letter in enumerate(letters)}
    row = start
    for letter in word:
        row = table[row][columns[letter]]
    return row


def led_often(letters, table, word, start, times):
    """The row to which a word, repeated so often, leads from a row."""
    # The repetitions run into a ring of rows, and `times` is too great to go round it one by one.
    met = [start]
    numbers = {start: 0}
    while len(met) <= times:
        row = led(letters, table, word, met[-1])
        if row in numbers:
            ahead = numbers[row]
            return met[ahead + (times - ahead) % (len(met) - ahead)]
        numbers[row] = len(met)
        met.append(row)
    return met[times]


def ways(table, start):
    """A dict from the rows that words reach from a row, in the order of the first such words.

    Each reached row has the pair of the row ahead of it on its first way and the column taken there.
    """
    found = {start: None}
    queue = [start]
    done = 0
    while done < len(queue):
        row = queue[done]
        done += 1
        for column, after in enumerate(table[row]):
            if after not in found:
                found[after] = (row, column)
                queue.append(after)
    return found


def word_along(letters, found, row):
    """The first word that leads to a row, from the dict that `ways` returns."""
    taken = []
    step = found[row]
    while step is not None:
        taken.append(letters[step[1]])
        step = found[step[0]]
    return "".join(taken[::-1])


def way_between(letters, table, start, goal):
    """The first word that leads from a row to a row, or None."""
    found = ways(table, start)
    if goal not in found:
        return None
    return word_along(letters, found, goal)


def way_to_any(letters, table, start, goals):
    """The first word that leads from a row to one of the goals, or None."""
    wanted = {goal: True for goal in goals}
    found = ways(table, start)
    for row in found:
        if row in wanted:
            return word_along(letters, found, row)
    return None


def ring_at(letters, table, row):
    """The first word that is not empty and leads a row to itself, or None."""
    rings = []
    for letter, after in zip(letters, table[row]):
        rest = way_between(letters, table, after, row)
        if rest is not None:
            rings.append(letter + rest)
    return min(rings, key=len, default=None)


def on_rings(table):
    """Whether some word that is not empty leads a row to itself, for each row."""
    found = [row in afters for row, afters in enumerate(table)]
    for knot in knots_of(table):
        for row in knot:
            found[row] = found[row] or len(knot) > 1
    return found


def leading(table, goals):
    """Whether some word, perhaps empty, leads a row to one of the goals, for each row."""
    back = _turned_round(table)
    found = [False for _ in table]
    queue = list(goals)
    while queue:
        row = queue.pop()
        if not found[row]:
            found[row] = True
            queue.extend(back[row])
    return found


def trimmed(table, start):
    """The rows that words reach from a row, in the order of the first such words, and their table."""
    order = list(ways(table, start))
    numbers = {row: at for at, row in enumerate(order)}
    return order, tuple([tuple([numbers[after] for after in table[row]]) for row in order])


def paired(one, other, start, most=None):
    """The pairs of rows that words reach from a pair, in the order of the first words, and their table.

    More than `most` pairs raise TooMany.
    """
    pairs = [start]
    numbers = {start: 0}
    rows = []
    while len(rows) < len(pairs):
        left, right = pairs[len(rows)]
        row = []
        for after in zip(one[left], other[right]):
            if after not in numbers:
                if len(pairs) == most:
                    raise TooMany(most)
                numbers[after] = len(pairs)
                pairs.append(after)
            row.append(numbers[after])
        rows.append(tuple(row))
    return pairs, tuple(rows)


def explored(signs, start, step, most=None):
    """The keys to which `step(key, sign)` leads from a first one, by the first words, and their table.

    More than `most` keys raise TooMany. No operator and no property may call this: it calls `step`.
    """
    keys = [start]
    numbers = {start: 0}
    rows = []
    while len(rows) < len(keys):
        key = keys[len(rows)]
        row = []
        for sign in signs:
            after = step(key, sign)
            if after not in numbers:
                if len(keys) == most:
                    raise TooMany(most)
                numbers[after] = len(keys)
                keys.append(after)
            row.append(numbers[after])
        rows.append(tuple(row))
    return keys, tuple(rows)


def numbered(keys):
    """The numbers of the keys, where equal ones have one number, in the order in which they come first."""
    numbers = {}
    for key in keys:
        if key not in numbers:
            numbers[key] = len(numbers)
    return [numbers[key] for key in keys]


def refined(table, groups):
    """The numbers of the least many groups within these that letters lead into one group each."""
    many = 0
    while max(groups) + 1 > many:
        many = max(groups) + 1
        groups = numbered([(groups[at], tuple([groups[after] for after in row])) for at, row in enumerate(table)])
    return groups


def least_parts(table, ends, start):
    """The table and the ends of the least machine with the words that lead from a row to an end."""
    order, rows = trimmed(table, start)
    marks = {end: True for end in ends}
    groups = refined(rows, numbered([row in marks for row in order]))
    firsts = []
    for at, group in enumerate(groups):
        if group == len(firsts):
            firsts.append(at)
    kept = tuple([tuple([groups[after] for after in rows[at]]) for at in firsts])
    return kept, tuple([group for group, at in enumerate(firsts) if order[at] in marks])


def knots_of(table):
    """The ascending tuple of the knots, each an ascending tuple of rows that lead to one another."""
    back = _turned_round(table)
    taken = {}
    found = []
    for start in _finished(table)[::-1]:
        if start not in taken:
            knot = _not_taken(back, start, taken)
            for row in knot:
                taken[row] = True
            found.append(tuple(sorted(knot)))
    return tuple(sorted(found))


def _turned_round(table):
    back = {row: [] for row in range(len(table))}
    for row, afters in enumerate(table):
        for after in afters:
            back[after].append(row)
    return back


def _finished(table):
    """All rows in the order in which a search into the depth has done with them."""
    met = {}
    order = []
    for start in range(len(table)):
        stack = [] if start in met else [(start, 0)]
        met[start] = True
        while stack:
            row, column = stack.pop()
            if column == len(table[row]):
                order.append(row)
                continue
            stack.append((row, column + 1))
            after = table[row][column]
            if after not in met:
                met[after] = True
                stack.append((after, 0))
    return order


def _not_taken(back, start, taken):
    """The rows from which steps backward lead to others, from a row on, but for those that are taken."""
    met = {start: True}
    queue = [start]
    while queue:
        row = queue.pop()
        for ahead in back[row]:
            if ahead not in met and ahead not in taken:
                met[ahead] = True
                queue.append(ahead)
    return list(met)
