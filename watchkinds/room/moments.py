"""What a room holds at one time, and blocks behind which it is as it was."""


class Moment:
    """What a room holds: machines, watchers and their places by names, and whether something was read.

    A moment never changes: each change of a room makes a new one.
    """

    def __init__(self, known, boxes, stood, was_read):
        self.known = known
        self.boxes = boxes
        self.stood = stood
        self.was_read = was_read
        self.names = tuple(sorted(list(boxes)))

    def with_machine(self, name, machine):
        """The moment with one more machine."""
        return Moment({**self.known, name: machine}, self.boxes, self.stood, self.was_read)

    def without_machine(self, name):
        """The moment with one machine less."""
        return Moment(_without(self.known, name), self.boxes, self.stood, self.was_read)

    def with_watcher(self, name, box):
        """The moment with one more watcher, at its place 0."""
        return Moment(self.known, {**self.boxes, name: box}, {**self.stood, name: 0}, self.was_read)

    def without_watcher(self, name):
        """The moment with one watcher less."""
        return Moment(self.known, _without(self.boxes, name), _without(self.stood, name), self.was_read)

    def behind(self, word, times):
        """The moment with all watchers led along a word, repeated so often."""
        stood = {name: self.boxes[name].place(word, self.stood[name], times=times) for name in self.boxes}
        return Moment(self.known, self.boxes, stood, True)

    def begun(self):
        """The moment with all watchers at their places 0, and nothing read."""
        return Moment(self.known, self.boxes, {name: 0 for name in self.boxes}, False)


class Block:
    """A block behind which a room is as it was when the block was entered."""

    def __init__(self, room):
        self.room = room
        self.kept = None

    def __enter__(self):
        # The same block can be entered once more within itself.
        self.kept = Kept(self.room, self.kept)
        return self.room

    def __exit__(self, kind, value, trace):
        self.room._moments = self.kept.moments
        self.room._at = self.kept.at
        self.room._now = self.kept.now
        self.kept = self.kept.outer


class Kept:
    """What a block brings back at its end, and what it does behind that, where it was entered more than once."""

    def __init__(self, room, outer):
        self.moments = list(room._moments)
        self.at = room._at
        self.now = room._now
        self.outer = outer


def _without(named, name):
    return {other: named[other] for other in named if other != name}
