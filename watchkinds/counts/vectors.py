"""Tuples of counts, one for each letter: sums of them, and what whole numbers of times of some of them make."""


def plus(one, other, times=1):
    """The sum of a vector and so many times another one."""
    return tuple([left + times * right for left, right in zip(one, other)])


def reached_by(vectors):
    """A dict with which `times_for` and `rest_by` tell what whole numbers of times of the vectors make.

    From an index it leads to the pair of a vector that is made of them, with zeros ahead of this index, and of the
    times with which it is made.
    """
    pivots = {}
    for at, vector in enumerate(vectors):
        times = tuple([1 if index == at else 0 for index in range(len(vectors))])
        for index in range(len(vector)):
            if vector[index] != 0 and index not in pivots:
                pivots[index] = (vector, times)
                break
            while vector[index] != 0:
                # One step of Euclid's, so that at last the old vector has no rest by the new pivot.
                held, held_times = pivots[index]
                whole = vector[index] // held[index]
                vector, times = plus(vector, held, -whole), plus(times, held_times, -whole)
                if vector[index] != 0:
                    pivots[index] = (vector, times)
                    vector, times = held, held_times
    return pivots


def rest_by(pivots, vector):
    """The same vector for all that differ by what is made of whole numbers of times."""
    for index in range(len(vector)):
        if index in pivots:
            held = pivots[index][0]
            vector = plus(vector, held, -(vector[index] // held[index]))
    return vector


def times_for(pivots, vector, many):
    """The times with which a vector that is made of the vectors is made of them."""
    times = tuple([0 for _ in range(many)])
    for index in range(len(vector)):
        if index in pivots:
            held, held_times = pivots[index]
            whole = vector[index] // held[index]
            vector, times = plus(vector, held, -whole), plus(times, held_times, whole)
    return times


def rising(vectors, width):
    """A vector with which each of these has a product above 0; there is one."""
    found = tuple([0 for _ in range(width)])
    fallen = [vector for vector in vectors if product_of(found, vector) <= 0]
    while fallen:
        found = plus(found, fallen[0])
        fallen = [vector for vector in vectors if product_of(found, vector) <= 0]
    return found


def product_of(one, other):
    """The sum of the products of the parts of two vectors."""
    return sum([left * right for left, right in zip(one, other)])
