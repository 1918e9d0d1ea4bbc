"""What all watchers of a room see together."""

from watchkinds.base.tables import paired


class Joint:
    """The tuples of places to which words lead some boxes, numbered, and their table."""

    def __init__(self, width, boxes, most):
        self.many = most
        self.stands = [()]
        self.lines = (tuple([0 for _ in range(width)]),)
        for box in boxes:
            # A machine meets each of these tuples, so that too many are too many with a machine, too.
            pairs, rows = paired(self.lines, box.table, (0, 0), most)
            self.stands = [self.stands[at] + (place,) for at, place in pairs]
            self.lines = rows

    def seen(self, machine):
        """A dict of the tuples of places to which words of a machine lead."""
        pairs = paired(machine.table, self.lines, (0, 0), self.many)[0]
        return {self.stands[at]: True for state, at in pairs if state in machine.ends}
