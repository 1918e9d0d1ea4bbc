"""The closing of the clouds of words: the greatest clouds, and recipes for bad ones."""

from watchkinds.base.tables import ways, word_along
from watchkinds.latches.clouds import stable_powers
from watchkinds.latches.images import MAX_READINGS, explored_maps, hits_of
from watchkinds.latches.papers import MAX_WORD


class Closing:
    """The clouds that come of those of words by taking two one behind the other, and often; parts are left out.

    Here a cloud is a number that has a bit for each of its maps, so that it is soon seen whether it is a part.
    """

    def __init__(self, one, other):
        self.maps, self.rows = explored_maps(one, other, MAX_READINGS)
        self.found = ways(self.rows, 0)
        self.signs = one.letters
        self.bits = self.all_bits()
        hits = [hits_of(one, other, held) for held in self.maps]
        self.hits = [_cloud_of([at for at, hit in enumerate(hits) if hit[side]]) for side in range(2)]
        self.listed = {}
        self.kept = []
        self.made = {}

    def all_bits(self):
        """For each map and each map behind it the bit of the map that they make."""
        indices = [[at] for at in range(len(self.maps))]
        # The map of a word with one letter more is that of the word, and the map of the letter behind it.
        for ahead, column in list(self.found.values())[1:]:
            for row in indices:
                row.append(self.rows[row[ahead]][column])
        return [[1 << index for index in row] for row in indices]

    def close(self, until_bad):
        """Take clouds one behind the other and often, until no greater ones come; or until one of them is bad."""
        for at in range(len(self.maps)):
            self.offer(1 << at, ("word", word_along(self.signs, self.found, at)))
        queue = list(self.made)
        while queue:
            before = len(self.made)
            for cloud in queue:
                if until_bad and self.bad_cloud() is not None:
                    return
                if cloud in self.kept:
                    self.offer_from(cloud)
            queue = list(self.made)[before:]

    def offer_from(self, cloud):
        """Offer what comes of a cloud, and of it and the kept ones."""
        self.offer(self.often(cloud), ("often", cloud))
        for other in list(self.kept):
            # What two single maps make is there from the beginning.
            if not _is_single(cloud) or not _is_single(other):
                self.offer(self.product(cloud, other), ("both", cloud, other))
                self.offer(self.product(other, cloud), ("both", other, cloud))

    def offer(self, cloud, step):
        """Keep a cloud that is no part of another one, with the step that makes it, instead of its parts."""
        if cloud not in self.made and not any([cloud & other == cloud for other in self.kept]):
            self.made[cloud] = step
            self.kept = [other for other in self.kept if cloud & other != other] + [cloud]

    def members(self, cloud):
        """The indices of the maps of a cloud."""
        if cloud not in self.listed:
            self.listed[cloud] = [at for at in range(len(self.maps)) if cloud >> at & 1]
        return self.listed[cloud]

    def product(self, left, right):
        """The cloud of two, the second one behind the first one."""
        found = 0
        for one in self.members(left):
            row = self.bits[one]
            for other in self.members(right):
                found = found | row[other]
        return found

    def often(self, cloud):
        """The cloud often."""
        powers = stable_powers(cloud, lambda left, right: self.product(left, right))
        return powers[-2] | powers[-1]

    def bad_cloud(self):
        """A kept cloud that is bad, or None."""
        bad = [cloud for cloud in self.kept if cloud & self.hits[0] and cloud & self.hits[1]]
        return bad[0] if bad else None

    def greatest(self):
        """The ascending tuple of the kept clouds."""
        return tuple(sorted([tuple(sorted([self.maps[at] for at in self.members(cloud)])) for cloud in self.kept]))

    def recipe(self, cloud):
        """A recipe for a cloud that was offered."""
        needed = {cloud: True}
        for made in list(self.made)[::-1]:
            if made in needed and self.made[made][0] != "word":
                needed.update({part: True for part in self.made[made][1:]})
        steps = []
        indices = {}
        for made in self.made:
            if made in needed:
                steps.extend(_written(self.made[made], indices, len(steps)))
                indices[made] = len(steps) - 1
        return tuple(steps)


def _cloud_of(indices):
    """The cloud of the maps with these indices."""
    found = 0
    for index in indices:
        found = found | 1 << index
    return found


def _is_single(cloud):
    return cloud & (cloud - 1) == 0


def _written(step, indices, at):
    """The steps of a recipe, behind so many other ones, that make what a step makes of clouds with these indices."""
    if step[0] != "word":
        return [(step[0],) + tuple([indices[cloud] for cloud in step[1:]])]
    # With one more letter a word has one more map behind it, so that two words are long enough for all maps.
    words = [step[1][:MAX_WORD], step[1][MAX_WORD:]]
    if words[1] == "":
        return [("word", words[0])]
    return [("word", words[0]), ("word", words[1]), ("both", at, at + 1)]
