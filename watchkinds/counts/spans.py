"""Simple rings, and the counts of all words of a machine: of a few words, and of rings at states that they meet."""

from watchkinds.base.tables import knots_of
from watchkinds.counts.vectors import plus


def units_of(letters):
    """For each letter the counts of this letter alone."""
    return [tuple([1 if at == letter else 0 for at in range(len(letters))]) for letter in range(len(letters))]


def rings_by_counts(letters, table, state):
    """A dict from the counts of the simple rings at a state to the first such rings, the first one first."""
    knot = [held for held in knots_of(table) if state in held][0]
    units = units_of(letters)
    found = {}
    layer = {(state, (), tuple([0 for _ in letters])): ""}
    while layer:
        longer = {}
        for (here, met, counted), word in layer.items():
            for letter, after, unit in zip(letters, table[here], units):
                sums = plus(counted, unit)
                if after == state and sums not in found:
                    found[sums] = word + letter
                elif after != state and after in knot and after not in met:
                    key = (after, tuple(sorted([after, *met])), sums)
                    longer.setdefault(key, word + letter)
        layer = longer
    return found


def spans_of(machine):
    """The spans of a machine: all counts of words are counts of a span's words and of its rings, any number of times.

    A span is a pair: a dict from counts to words that all meet the same states, and a dict from counts to pairs of one
    of these states and of a simple ring there.
    """
    short = _short_words(machine)
    rings = [rings_by_counts(machine.letters, machine.table, state) for state in range(len(machine))]
    found = []
    for met in sorted(list(short)):
        around = {}
        for state in met:
            for counted, ring in rings[state].items():
                around.setdefault(counted, (state, ring))
        # What is one of these words and a ring besides is there by the other word.
        bases = {counted: word for counted, word in short[met].items()
                 if not any([plus(counted, turn, -1) in short[met] for turn in around])}
        found.append((bases, around))
    return found


def _short_words(machine):
    """A dict from the sets of states that words meet to dicts from the counts of such words to the first ones.

    The words are all those that are so short that longer ones go round a ring that can be left out.
    """
    many = len(machine)
    units = units_of(machine.letters)
    found = {}
    layer = {(0, (0,), tuple([0 for _ in machine.letters])): ""}
    # Up to each new state a word need not meet an old one twice, and neither behind the last new one.
    for _ in range(many * (many - 1) // 2 + many):
        longer = {}
        for (here, met, counted), word in layer.items():
            if here in machine.ends:
                held = found.setdefault(met, {})
                held.setdefault(counted, word)
            for letter, after, unit in zip(machine.letters, machine.table[here], units):
                states = met if after in met else tuple(sorted([after, *met]))
                longer.setdefault((after, states, plus(counted, unit)), word + letter)
        layer = longer
    return found
