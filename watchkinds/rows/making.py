"""Rows made from boxes: image sets of places, their heights, tiles and turns, and row papers."""

from watchkinds.base.tables import explored
from watchkinds.boxes.boxes import need_box
from watchkinds.errors import InvalidOperation, TooMany
from watchkinds.rows.levels import value_after

MAX_ROWED = 5


def image_sets(box):
    """The ascending tuple of all image sets of a box."""
    _need_small(box)
    return _sets_of(box.table)


def height(box, places):
    """The height of an image set."""
    _need_set(box, places)
    return _heights(box.table)[places]


def tiles(box, places):
    """The ascending tuple of the tiles of an image set."""
    _need_set(box, places)
    return _tiles_of(_sets_of(box.table), places)


def set_turns(box, places):
    """The ascending tuple of all rearrangements of an image set by words that lead it onto itself."""
    _need_set(box, places)
    return tuple(sorted([led for led in _ordered_images(box.table, places) if tuple(sorted(led)) == places]))


def row_paper(box):
    """Any row paper of a box: its row goes from all places down to one, by a tile at each level."""
    _need_small(box)
    reading = Reading(box.table)

    def step(stand, column):
        deeds = reading.deeds(stand, column)
        return tuple([value_after(deed, value) for deed, value in zip(deeds, stand)])

    columns = list(range(len(box.letters)))
    stands = explored(columns, reading.firsts, step)[0]
    return _row(reading, columns, stands), tuple([reading.place(stand) for stand in stands])


class Reading:
    """How stands are read as places of a box: at each level the set that is read goes on to one of its tiles."""

    def __init__(self, table):
        self.steps = table
        self.heights = _heights(table)
        self.tiles = _numbered_tiles(table)
        self.whole = tuple(range(len(table)))
        self.many = self.heights[self.whole]
        # A level has a value for each tile of the set at its height that has the most of them.
        self.sizes = [max([len(self.tiles[held]) for held in self.heights if self.heights[held] == here])
                       for here in range(self.many, 0, -1)]
        self.firsts = self.first_stand()

    def reads(self, held, at):
        """Whether a set is read at a level."""
        return self.heights[held] == self.many - at

    def first_stand(self):
        """The stand that is read as the place 0, with the value 0 in all levels that are not read."""
        held = self.whole
        firsts = []
        for at in range(self.many):
            number = 0
            if self.reads(held, at):
                number = [0 in tile for tile in self.tiles[held]].index(True)
                held = self.tiles[held][number]
            firsts.append(number)
        return tuple(firsts)

    def place(self, stand):
        """The place as which a stand is read."""
        held = self.whole
        for at, value in enumerate(stand):
            if self.reads(held, at):
                held = self.tiles[held][value]
        return held[0]

    def deeds(self, stand, column):
        """What a letter does to each level at a stand: a reset, a rearrangement, or None if the value is kept."""
        ahead = behind = self.whole
        found = []
        for at, value in enumerate(stand):
            deed = self.deed(ahead, behind, at, column)
            found.append(deed)
            if self.reads(ahead, at):
                ahead = self.tiles[ahead][value]
            if self.reads(behind, at):
                behind = self.tiles[behind][value_after(deed, value)]
        return found

    def deed(self, ahead, behind, at, column):
        """What a letter does to a level, by the sets that are read ahead of the letter and behind it."""
        if not self.reads(behind, at):
            return self.firsts[at] if self.reads(ahead, at) else None
        image = _moved(self.steps, ahead, column)
        if image != behind:
            return [_is_part(image, tile) for tile in self.tiles[behind]].index(True)
        moved = [self.tiles[behind].index(_moved(self.steps, tile, column))
                 for tile in self.tiles[ahead]]
        turn = tuple(moved + list(range(len(moved), self.sizes[at])))
        return None if turn == tuple(range(len(turn))) else turn


def _row(reading, columns, stands):
    """The row with the deeds at these stands, the reached ones."""
    rules = [[{} for _ in columns] for _ in reading.sizes]
    for stand in sorted(stands):
        for column in columns:
            for at, deed in enumerate(reading.deeds(stand, column)):
                if deed is not None:
                    rules[at][column][stand[:at]] = deed
    return tuple([(values, first, tuple(rule)) for values, first, rule in zip(reading.sizes, reading.firsts, rules)])


def _need_small(box):
    need_box(box)
    if len(box) > MAX_ROWED:
        raise TooMany(MAX_ROWED)


def _need_set(box, places):
    _need_small(box)
    if not any([_is_same(places, held) for held in _sets_of(box.table)]):
        raise InvalidOperation("no image set of the box")


def _is_same(value, held):
    """Whether the value is the same tuple of integers: True and False are none."""
    return value == held and not any([isinstance(part, bool) for part in value])


def _moved(table, places, column):
    """The set of the places to which a letter leads these."""
    return tuple(sorted(set([table[place][column] for place in places])))


def _is_part(places, others):
    return all([place in others for place in places])


def _images(table, places):
    """All sets onto which words lead a set, in the order of the first such words."""
    return explored(list(range(len(table[0]))), places, lambda held, column: _moved(table, held, column))[0]


def _ordered_images(table, places):
    """All tuples of the places to which words lead these, in the order of the first such words."""
    return explored(list(range(len(table[0]))), places,
                    lambda held, column: tuple([table[place][column] for place in held]))[0]


def _sets_of(table):
    everywhere = tuple(range(len(table)))
    singles = [(place,) for place in everywhere]
    return tuple(sorted(set(_images(table, everywhere) + singles)))


def _lower_sets(table):
    """A dict from the image sets to the lists of those that are below them, themselves among them."""
    held = _sets_of(table)
    images = {places: _images(table, places) for places in held}
    return {places: [other for other in held if any([_is_part(other, image) for image in images[places]])]
            for places in held}


def _heights(table):
    """A dict from the image sets to their heights."""
    lower = _lower_sets(table)
    found = {}
    # What is below a set and not alike with it has less sets below it.
    for places in sorted(list(lower), key=lambda held: len(lower[held])):
        under = [found[other] for other in lower[places] if places not in lower[other]]
        found[places] = 0 if len(places) == 1 else 1 + max(under)
    return found


def _tiles_of(held, places):
    parts = [part for part in held if len(part) < len(places) and _is_part(part, places)]
    return tuple([part for part in parts if not any([part != other and _is_part(part, other) for other in parts])])


def _numbered_tiles(table):
    """A dict from the image sets to the lists of their tiles, numbered alike for sets that are alike."""
    lower = _lower_sets(table)
    found = {}
    for places in lower:
        if places in found:
            continue
        parts = _tiles_of(list(lower), places)
        for led in _ordered_images(table, places):
            image = tuple(sorted(set(led)))
            # Onto an alike set, the first word that leads there numbers its tiles.
            if image not in found and places in lower[image]:
                goes = {place: after for place, after in zip(places, led)}
                found[image] = [tuple(sorted([goes[place] for place in part])) for part in parts]
    return found
