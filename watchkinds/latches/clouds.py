"""Clouds of maps by numbers: what two of them make, one behind the other, and what one makes often."""

# There are fewer maps of the states of one machine than this, as far as they are looked at.
_UNIT = 4294967296


class Parts:
    """The parts of maps that belong to one machine, by numbers that are multiples of a unit, and what two make."""

    def __init__(self, unit):
        self.unit = unit
        self.numbers = {}
        self.held = {}
        self.rows = {}

    def number(self, part):
        """The number of a part."""
        if part not in self.numbers:
            number = len(self.numbers) * self.unit
            self.numbers[part] = number
            self.held[number] = part
            self.rows[number] = {}
        return self.numbers[part]

    def row(self, second, firsts):
        """A dict from the numbers of parts, these ones among them, to those that they make with one behind them."""
        row = self.rows[second]
        behind = self.held[second]
        for first in firsts:
            if first not in row:
                row[first] = self.number(tuple([behind[state] for state in self.held[first]]))
        return row


class Clouds:
    """Clouds as ascending tuples of numbers, for each map the sum of the numbers of its parts."""

    def __init__(self):
        self.sides = Parts(1), Parts(_UNIT)
        self.known = {}

    def coded(self, cloud):
        """The numbers of a cloud of maps."""
        return tuple(sorted([sum([part.number(one) for part, one in zip(self.sides, held)]) for held in cloud]))

    def uncoded(self, cloud):
        """The ascending tuple of the maps with these numbers."""
        left, right = self.sides
        return tuple(sorted([(left.held[one], right.held[other]) for one, other in _split(cloud)]))

    def behind(self, left, right):
        """The cloud of two, the second one behind the first one; it is kept for the next time."""
        if (left, right) not in self.known:
            self.known[(left, right)] = self.product(left, right)
        return self.known[(left, right)]

    def product(self, left, right):
        """The cloud of two, the second one behind the first one."""
        firsts, seconds = _split(left), _split(right)
        ones, others = [_rows(part, sorted(set([pair[at] for pair in firsts])), [pair[at] for pair in seconds])
                        for at, part in enumerate(self.sides)]
        found = {row[one] + also[other]: True for row, also in zip(ones, others) for one, other in firsts}
        return tuple(sorted(list(found)))

    def often(self, cloud):
        """The pair of a cloud often and of its number."""
        powers = stable_powers(cloud, lambda left, right: self.product(left, right))
        return tuple(sorted(set(powers[-2] + powers[-1]))), len(powers) - 1


def stable_powers(cloud, product):
    """A cloud taken 1, 2, .. times, up to one more than the number of times that makes the cloud often.

    `product` tells what two clouds make, the second one behind the first one.
    """
    powers = [cloud]
    numbers = {cloud: 1}
    after = product(cloud, cloud)
    while after not in numbers:
        powers.append(after)
        numbers[after] = len(powers)
        after = product(after, cloud)
    start, ring = numbers[after], len(powers) + 1 - numbers[after]
    # Twice so many times make the same just for the multiples of the ring from the start on.
    number = ring * ((start + ring - 1) // ring)
    return (powers + [after])[:number + 1]


def _split(cloud):
    """For each map of a cloud the pair of the numbers of its parts."""
    return [(number % _UNIT, number - number % _UNIT) for number in cloud]


def _rows(part, firsts, seconds):
    """For each of the second parts the dict of what it makes behind the first ones."""
    return [part.row(second, firsts) for second in seconds]
