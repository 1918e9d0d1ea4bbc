"""Words for recipes: for each map of a word for a recipe at a number, one with as few letters as any."""

from heapq import heappop, heappush

from watchkinds.latches.images import map_behind, word_map
from watchkinds.latches.papers import needed_steps


class Making:
    """The shortest words for the needed steps of a recipe at a number, as far as they are not too long.

    For each step there is a dict from maps to pairs: of how many letters the word has, and of the maps of the parts of
    which it is made, words for the steps that the step tells.
    """

    def __init__(self, one, other, recipe, number, most):
        self.steps = recipe
        self.most = most
        self.ways = {}
        for at in needed_steps(recipe):
            step = recipe[at]
            if step[0] == "word":
                self.ways[at] = {word_map(one, other, step[1]): (len(step[1]), ())}
            elif step[0] == "both":
                self.ways[at] = self.behind(self.ways[step[1]], self.ways[step[2]])
            else:
                still = word_map(one, other, "")
                self.ways[at] = self.often(self.ways[step[1]], still, number)

    def behind(self, lefts, rights):
        """The shortest words of one for the one step, and one for the other step behind it."""
        found = {}
        for left, (size, _) in lefts.items():
            for right, (more, _) in rights.items():
                made = map_behind(left, right)
                if size + more <= self.most and (made not in found or size + more < found[made][0]):
                    found[made] = (size + more, (left, right))
        return found

    def often(self, parts, still, number):
        """The shortest words of at least so many words for a step, one behind the other."""
        # A stand is the pair of how many words there are, at most counted up to the number, and of their map.
        best = {(0, still): (0, None, None)}
        done = {}
        queue = [(0, 0, still)]
        while queue:
            size, many, held = heappop(queue)
            if (many, held) in done:
                continue
            done[(many, held)] = True
            for part, (more, _) in parts.items():
                after = min(many + 1, number), map_behind(held, part)
                if size + more <= self.most and (after not in best or size + more < best[after][0]):
                    best[after] = (size + more, (many, held), part)
                    heappush(queue, (size + more, after[0], after[1]))
        return {held: (best[(many, held)][0], _parts_to(best, (many, held)))
                for many, held in list(best) if many == number}

    def last(self):
        """A dict from the maps of words for the recipe to how many letters the shortest ones have."""
        return {held: size for held, (size, _) in self.ways[len(self.steps) - 1].items()}

    def word(self, held):
        """The shortest word for the recipe that makes a map; there is one."""
        needed = {(len(self.steps) - 1, held): True}
        for at in reversed(range(len(self.steps))):
            maps = [made for index, made in needed if index == at]
            for made in maps:
                needed.update({part: True for part in self.parts_of(at, made)})
        words = {}
        for at, made in sorted(list(needed)):
            step = self.steps[at]
            parts = "".join([words[part] for part in self.parts_of(at, made)])
            words[(at, made)] = step[1] if step[0] == "word" else parts
        return words[(len(self.steps) - 1, held)]

    def parts_of(self, at, held):
        """The pairs of a step and a map of the parts of the word for a step that makes a map."""
        step = self.steps[at]
        maps = self.ways[at][held][1]
        if step[0] == "both":
            return [(step[1], maps[0]), (step[2], maps[1])]
        return [(step[1], made) for made in maps]


def _parts_to(best, stand):
    """The maps of the words that lead to a stand."""
    parts = []
    while best[stand][1] is not None:
        stand, part = best[stand][1:]
        parts.append(part)
    return tuple(parts[::-1])
