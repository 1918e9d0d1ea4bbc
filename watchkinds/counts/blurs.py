"""How counts blurs are found: two spans, one of each machine, and rings of theirs that make equal sums."""

from watchkinds.counts.rings import met
from watchkinds.counts.spans import spans_of, units_of
from watchkinds.counts.vectors import plus, product_of, reached_by, rest_by, rising, times_for


def found_blur(one, other, sort):
    """Any counts blur of two machines with the same letters that have no word in common, or None."""
    rights = spans_of(other)
    for left in spans_of(one):
        for right in rights:
            found = _blur_of_spans(one, other, sort, left, right)
            if found is not None:
                return found
    return None


def _blur_of_spans(one, other, sort, left, right):
    """Any counts blur with a word and rings of each of both spans, or None."""
    letters = one.letters
    large = letters if sort == "sums" else _large_letters(letters, left[1], right[1])
    turns = [(0, ring) for ring in left[1]] + [(1, ring) for ring in right[1]]
    free = [turn for turn in turns if _is_within(letters, large, turn[1])]
    # Caps do not see how often large letters come, so that for them each of these is made up alone.
    units = [unit for letter, unit in zip(letters, units_of(letters)) if letter in large]
    made = units if sort == "caps" else [_change(turn) for turn in free]
    pivots = reached_by(made)
    bound = [turn for turn in turns if turn not in free]
    way = _way_to_equal(letters, large, pivots, left[0], right[0], bound)
    if way is None:
        return None
    bases, taken = way
    times = _times_round(bases, taken, [] if sort == "caps" else free, pivots)
    sides = [_side(machine, large, span, base, held)
             for machine, span, base, held in zip((one, other), (left, right), bases, times)]
    return ("counts", large, sides[0], sides[1])


def _times_round(bases, taken, free, pivots):
    """For each side a dict from the counts of rings to how often they are gone round, so that both sums are equal."""
    times = [{}, {}]
    rest = plus(bases[0], bases[1], -1)
    for side, ring in taken:
        times[side][ring] = times[side].get(ring, 0) + 1
        rest = plus(rest, _change((side, ring)))
    for (side, ring), many in zip(free, times_for(pivots, _opposite(rest), len(free))):
        times[side][ring] = many
    return times


def _opposite(vector):
    return tuple([-part for part in vector])


def _change(turn):
    """How a ring of a side changes the difference of both sums."""
    side, ring = turn
    return ring if side == 0 else _opposite(ring)


def _is_within(letters, large, ring):
    """Whether counts of a ring have large letters alone."""
    return all([part == 0 or letter in large for letter, part in zip(letters, ring)])


def _large_letters(letters, left, right):
    """The greatest set of letters such that on each side each of them is in a ring with these letters alone."""
    large = None
    kept = letters
    while kept != large:
        large = kept
        for rings in (left, right):
            within = [ring for ring in rings if _is_within(letters, large, ring)]
            kept = "".join([letter for at, letter in enumerate(letters)
                            if letter in kept and any([ring[at] > 0 for ring in within])])
    return large


def _way_to_equal(letters, large, pivots, lefts, rights, bound):
    """A pair of bases, and rings that are not free and make their difference what the free rings make up; or None."""
    # As no more letters can be large, some product rises with each of these rings: so there are few of them.
    seen = [tuple([0 if letter in large else part for letter, part in zip(letters, _change(turn))]) for turn in bound]
    height = rising(seen, len(letters))
    goal = tuple([0 for _ in letters])
    found = {}
    for one in lefts:
        for other in rights:
            key = rest_by(pivots, plus(one, other, -1))
            if product_of(height, key) <= 0:
                found[key] = (None, (one, other))
    queue = list(found)
    done = 0
    while done < len(queue) and goal not in found:
        key = queue[done]
        done += 1
        for turn in bound:
            after = rest_by(pivots, plus(key, _change(turn)))
            if after not in found and product_of(height, after) <= 0:
                found[after] = (key, turn)
                queue.append(after)
    return _way_back(found, goal) if goal in found else None


def _way_back(found, key):
    taken = []
    ahead, step = found[key]
    while ahead is not None:
        taken.append(step)
        ahead, step = found[ahead]
    return step, taken


def _side(machine, large, span, base, times):
    """The side with a word of the span, and with its rings so many times, each large letter in a free one."""
    word = span[0][base]
    lacking = list(large)
    rings = []
    for counted, (state, ring) in span[1].items():
        is_free = _is_within(machine.letters, large, counted)
        if times.get(counted, 0) != 0 or (is_free and any([letter in ring for letter in lacking])):
            at = [state in met(machine, word[:size]) for size in range(len(word) + 1)].index(True)
            rings.append((at, ring, times.get(counted, 0)))
            lacking = [letter for letter in lacking if not (is_free and letter in ring)]
    return word, tuple(rings)
