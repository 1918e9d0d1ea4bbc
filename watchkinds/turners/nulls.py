"""Null walks: walks whose rows are alike to the empty one, with as few letters in their stand-ins as any."""

from heapq import heappop, heappush

from watchkinds.base.tables import way_between
from watchkinds.turners.walks import signed_steps

# Stand-ins are made for the least common multiple of 1 to 6 in most cases.
_NUMBER = 60


class NullWalks:
    """The null pairs of a machine, each with a null walk, and the steps of the machine with their costs."""

    def __init__(self, machine):
        self.many = len(machine)
        self.out = steps_from(machine)
        self.costs = {step: _letters_of(machine, step) for state in self.out for step in self.out[state]}
        self.found = {}
        self.best = {}
        self.queue = []
        self.search()

    def search(self):
        """Find the cheapest null walks, the cheapest one first, each made of cheaper ones."""
        into = {state: [step for step in self.costs if step[2] == state] for state in range(self.many)}
        for state in range(self.many):
            self.offer((state, state), 0, ())
        while self.queue:
            cost, one, other = heappop(self.queue)
            if (one, other) in self.found:
                continue
            self.found[(one, other)] = self.best[(one, other)]
            for first in into[one]:
                for last in self.out[other]:
                    if first[1] == last[1].swapcase():
                        more = cost + self.costs[first] + self.costs[last]
                        self.offer((first[0], last[2]), more, (first, (one, other), last))
            self.chain(one, other, cost)

    def chain(self, one, other, cost):
        """Offer what a found walk makes with the others, ahead of it and behind it."""
        for state in range(self.many):
            if (state, one) in self.found:
                self.offer((state, other), cost + self.cost(state, one), ((state, one), (one, other)))
            if (other, state) in self.found:
                self.offer((one, state), cost + self.cost(other, state), ((one, other), (other, state)))

    def offer(self, pair, cost, parts):
        """Keep a walk if it is the cheapest one so far; its parts are steps and pairs that were found."""
        if pair not in self.best or cost < self.best[pair][0]:
            self.best[pair] = (cost, parts)
            heappush(self.queue, (cost, pair[0], pair[1]))

    def cost(self, one, other):
        """The cost of the null walk that was found from the one state to the other one."""
        return self.found[(one, other)][0]

    def walk(self, one, other):
        """The null walk that was found from the one state to the other one."""
        walk = []
        parts = [(one, other)]
        while parts:
            part = parts.pop()
            if len(part) == 3:
                walk.append(part)
            else:
                parts.extend(self.found[part][1][::-1])
        return tuple(walk)


def steps_from(machine):
    """A dict from the states to the lists of the steps and back steps from there."""
    found = {state: [] for state in range(len(machine))}
    for step in signed_steps(machine):
        found[step[0]].append(step)
    return found


def _letters_of(machine, step):
    """How many letters the stand-in of a step has."""
    if step[1].islower():
        return 1
    back = len(way_between(machine.letters, machine.table, step[0], step[2]))
    return back + (1 + back) * (_NUMBER - 1)
