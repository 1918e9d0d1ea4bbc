"""Rings with just some letters, and the sides of blocks that are made of them."""

from watchkinds.base.tables import explored, ways, word_along


def rings_of(letters, table, state):
    """A dict from the sets of letters of the rings at a state to the first such rings."""
    def step(key, column):
        used = key[1] if letters[column] in key[1] else "".join(sorted(list(key[1] + letters[column])))
        return table[key[0]][column], used

    keys, rows = explored(list(range(len(letters))), (state, ""), step)
    found = ways(rows, 0)
    rings = {used: word_along(letters, found, at) for at, (after, used) in enumerate(keys)
             if after == state and used != ""}
    return {used: rings[used] for used in sorted(list(rings))}


def all_rings(machine):
    """For each state of a machine, the dict of its rings."""
    return [rings_of(machine.letters, machine.table, state) for state in range(len(machine))]


def sides_from(machine, rings, state, letters):
    """A dict from the states to which sides with rings of just these letters lead from a state to such sides."""
    columns = [machine.letters.index(letter) for letter in letters]
    part = [[row[column] for column in columns] for row in machine.table]
    ahead = ways(part, state)
    found = {}
    for turned in ahead:
        if letters in rings[turned]:
            behind = ways(part, turned)
            for after in behind:
                if after not in found:
                    found[after] = (word_along(letters, ahead, turned), rings[turned][letters],
                                    word_along(letters, behind, after))
    return found
