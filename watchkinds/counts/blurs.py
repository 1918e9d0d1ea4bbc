"""How counts blurs are found: two spans, one of each machine, and rings of theirs that make equal sums."""

from watchkinds.counts.rings import met
from watchkinds.counts.spans import spans_of
from watchkinds.counts.vectors import plus, product_of, reached_by, rest_by, rising, times_for


def found_blur(one, other, sort):
    """Any counts blur of two machines with the same letters that have no word in common, or None."""
    rights = spans_of(other)
    for left in spans_of(one):
        for right in rights:
            found = _blur_of_spans(one, other, sort, left, right)
            if found is not None:
                return found
    return None


def _blur_of_spans(one, other, sort, left, right):
    """Any counts blur with a word and rings of each of both spans, or None."""
    letters = one.letters
    large = letters if sort == "sums" else _large_letters(letters, left[1], right[1])
    # Free rings may be gone round any whole number of times, so what is large in them matters to the clerks alone.
    free = [[ring for ring in span[1] if _is_within(letters, large, ring)] for span in (left, right)]
    moves = [(0, ring) for ring in left[1] if ring not in free[0]]
    moves += [(1, _opposite(ring)) for ring in right[1] if ring not in free[1]]
    gens = free[0] + [_opposite(ring) for ring in free[1]]
    if sort == "caps":
        gens = [_unit(letters, letter) for letter in large]
    pivots = reached_by(gens)
    way = _way_to_equal(letters, large, pivots, left[0], right[0], moves)
    if way is None:
        return None
    bases, taken = way
    times = [{}, {}]
    rest = plus(bases[0], bases[1], -1)
    for side, move in taken:
        ring = move if side == 0 else _opposite(move)
        times[side][ring] = times[side].get(ring, 0) + 1
        rest = plus(rest, move)
    if sort != "caps":
        for at, many in enumerate(times_for(pivots, _opposite(rest), len(gens))):
            side = 0 if at < len(free[0]) else 1
            times[side][gens[at] if side == 0 else _opposite(gens[at])] = many
    spans = left, right
    sides = [_side(machine, large, span, base, held)
             for machine, span, base, held in zip((one, other), spans, bases, times)]
    return ("counts", large, sides[0], sides[1])


def _opposite(vector):
    return tuple([-part for part in vector])


def _unit(letters, letter):
    return tuple([1 if sign == letter else 0 for sign in letters])


def _is_within(letters, large, ring):
    """Whether counts of a ring have large letters alone."""
    return all([part == 0 or letter in large for letter, part in zip(letters, ring)])


def _large_letters(letters, left, right):
    """The greatest set of letters such that on each side each of them is in a ring with these letters alone."""
    large = None
    kept = letters
    while kept != large:
        large = kept
        for rings in (left, right):
            within = [ring for ring in rings if _is_within(letters, large, ring)]
            kept = "".join([letter for at, letter in enumerate(letters)
                            if letter in kept and any([ring[at] > 0 for ring in within])])
    return large


def _way_to_equal(letters, large, pivots, lefts, rights, moves):
    """A pair of bases, and moves that make their difference equal to what the free rings make; or None.

    By each move the rings of one side that are not free change the difference.
    """
    # As no more letters can be large, some product rises with each move: so there are few of them.
    seen = [tuple([0 if letter in large else part for letter, part in zip(letters, move)]) for _, move in moves]
    height = rising(seen, len(letters))
    goal = tuple([0 for _ in letters])
    found = {}
    queue = []
    for one in lefts:
        for other in rights:
            key = rest_by(pivots, plus(one, other, -1))
            if key not in found and _height(height, letters, large, key) <= 0:
                found[key] = (None, (one, other))
                queue.append(key)
    done = 0
    while done < len(queue) and goal not in found:
        key = queue[done]
        done += 1
        for move in moves:
            after = rest_by(pivots, plus(key, move[1]))
            if after not in found and _height(height, letters, large, after) <= 0:
                found[after] = (key, move)
                queue.append(after)
    return _way_back(found, goal) if goal in found else None


def _height(height, letters, large, vector):
    return product_of(height, [0 if letter in large else part for letter, part in zip(letters, vector)])


def _way_back(found, key):
    taken = []
    ahead, step = found[key]
    while ahead is not None:
        taken.append(step)
        ahead, step = found[ahead]
    return step, taken


def _side(machine, large, span, base, times):
    """The side with a word of the span, and with its rings so many times, each large letter in a free one."""
    word = span[0][base]
    lacking = list(large)
    rings = []
    for counted, (state, ring) in span[1].items():
        is_free = _is_within(machine.letters, large, counted)
        if times.get(counted, 0) != 0 or (is_free and any([letter in ring for letter in lacking])):
            at = [state in met(machine, word[:size]) for size in range(len(word) + 1)].index(True)
            rings.append((at, ring, times.get(counted, 0)))
            lacking = [letter for letter in lacking if not (is_free and letter in ring)]
    return word, tuple(rings)
