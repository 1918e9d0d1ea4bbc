"""Whether a box is of the sort of the latches, also where its words have too many actions to look at all of them."""

from watchkinds.base.tables import knots_of
from watchkinds.ladder.actions import columns_of, rounds


def turns_no_place(table):
    """Whether no word leads a place to another one and, repeated, back to itself."""
    if any([rounds(action)[1] > 1 for action in columns_of(table)]):
        return False
    # A word that turns places round leads each pair of neighbours to the next one: so all these pairs lead to one
    # another, and the places follow one another in them.
    pairs = [(one, other) for knot in knots_of(table) for one in knot for other in knot if one != other]
    for knot in _knots_within(table, pairs):
        follow = _on_circles(knot)
        for size in range(2, len(follow) + 1):
            if _is_prime(size) and _turns(table, _circles(follow, size)):
                return False
    return True


def _knots_within(table, tuples):
    """The lists of two or more of some tuples of places that words lead to one another, without leaving them."""
    numbers = {held: at for at, held in enumerate(tuples)}
    columns = columns_of(table)
    rows = [tuple([numbers.get(tuple([action[place] for place in held]), len(tuples)) for action in columns])
            for held in tuples]
    knots = knots_of(rows + [tuple([len(tuples) for _ in columns])])
    return [[tuples[at] for at in knot] for knot in knots if len(knot) > 1]


def _on_circles(pairs):
    """A dict from places to the places that follow them in some pairs, as far as these pairs are on circles."""
    places = sorted(set([place for pair in pairs for place in pair]))
    numbers = {place: at for at, place in enumerate(places)}
    rows = [[] for _ in places]
    for one, other in pairs:
        rows[numbers[one]].append(numbers[other])
    knots = {at: knot for knot in knots_of(rows) for at in knot}
    follow = {}
    for at, place in enumerate(places):
        afters = [places[after] for after in rows[at] if after in knots[at]]
        if afters:
            follow[place] = afters
    return follow


def _circles(follow, size):
    """All tuples of so many different places, each of which follows the one ahead of it, and the first one the last."""
    found = [(place,) for place in follow]
    for _ in range(size - 1):
        found = [held + (after,) for held in found for after in follow[held[-1]] if after not in held]
    return [held for held in found if held[0] in follow[held[-1]]]


def _turns(table, circles):
    """Whether some word leads one of the tuples to the same one, begun with its second place."""
    for knot in _knots_within(table, circles):
        held = {circle: True for circle in knot}
        if any([circle[1:] + circle[:1] in held for circle in knot]):
            return True
    return False


def _is_prime(number):
    return all([number % part != 0 for part in range(2, number)])
