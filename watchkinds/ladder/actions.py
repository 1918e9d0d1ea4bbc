"""Actions of words on the places of a box: what becomes of them when they are repeated, and all of them."""

from math import lcm

from watchkinds.base.tables import explored


def columns_of(table):
    """The actions of the letters."""
    return [tuple([row[column] for row in table]) for column in range(len(table[0]))]


def rounds(action):
    """The least pair (start, ring) for which an action, taken `start` and `start + ring` times, is the same."""
    tails = {}
    ring = 1
    for first in range(len(action)):
        path = _path_from(action, first, tails)
        if path and action[path[-1]] not in tails:
            entry = path.index(action[path[-1]])
            ring = lcm(ring, len(path) - entry)
            for place in path[entry:]:
                tails[place] = 0
            path = path[:entry]
        for place in path[::-1]:
            tails[place] = tails[action[place]] + 1
    return max(tails.values()), ring


def joint_rounds(actions):
    """The least pair (start, ring) for which the same holds of each of the actions."""
    found = [rounds(action) for action in actions]
    joint = 1
    for _, ring in found:
        joint = lcm(joint, ring)
    return max([start for start, _ in found]), joint


def _path_from(action, first, tails):
    """The places that an action meets from a place on, each once, up to one that is known."""
    met = {}
    place = first
    while place not in met and place not in tails:
        met[place] = True
        place = action[place]
    return list(met)


def turned_place(action):
    """A place that the action leads to another one, and to itself if it is repeated; or None."""
    if rounds(action)[1] == 1:
        return None
    for first in range(len(action)):
        # After so many steps the place is on a ring.
        place = first
        for _ in action:
            place = action[place]
        if action[place] != place:
            return place
    return None


def all_actions(table, most):
    """All actions of words, in the order of the first such words, and the table that letters make of them.

    More than `most` raise TooMany.
    """
    def step(action, column):
        return tuple([table[place][column] for place in action])

    return explored(list(range(len(table[0]))), tuple(range(len(table))), step, most)
