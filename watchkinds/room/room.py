"""A room in which watchers of all sorts follow the same words, and guess which machines have them."""

from watchkinds.base.machines import MAX_TIMES, need_machines
from watchkinds.base.values import is_integer, need_number
from watchkinds.base.words import is_word, need_letters, need_over, need_word
from watchkinds.boxes.boxes import need_box
from watchkinds.boxes.sights import tells_apart, word_to
from watchkinds.errors import InvalidNumber, InvalidOperation, NothingToUndo, Refused, TooMany, UnknownName
from watchkinds.room.joint import Joint
from watchkinds.room.moments import Block, Moment

MAX_MACHINES = 8
MAX_WATCHERS = 6
MAX_JOINT = 20000

_MAX_NAME = 8


class Room:
    """A room: machines under names, and watchers under names, each at one of the places of its box."""

    def __init__(self, letters):
        need_letters(letters)
        self._letters = letters
        self._now = Moment({}, {}, {}, False)
        # All moments that can be brought back, and which of them it is now.
        self._moments = [self._now]
        self._at = 0

    @property
    def letters(self):
        """The set of letters."""
        return self._letters

    @property
    def machines(self):
        """The dict from names to machines."""
        return _ascending(self._now.known)

    @property
    def watchers(self):
        """The dict from names to boxes."""
        return _ascending(self._now.boxes)

    @property
    def places(self):
        """The dict from the names of watchers to their places."""
        return _ascending(self._now.stood)

    def add_machine(self, name, machine):
        """Add a machine under a name."""
        _need_name(name)
        need_machines((machine,))
        self._need_free(name, self._now.known, machine.letters)
        if len(self._now.known) == MAX_MACHINES:
            raise TooMany(MAX_MACHINES)
        self._change(self._now.with_machine(name, machine))

    def drop_machine(self, name):
        """Take a machine away."""
        _need_known(name, self._now.known)
        self._change(self._now.without_machine(name))

    def add_watcher(self, name, box):
        """Add a watcher under a name, at its place 0."""
        _need_name(name)
        need_box(box)
        self._need_free(name, self._now.boxes, box.letters)
        if self._now.was_read:
            raise Refused("read")
        if len(self._now.boxes) == MAX_WATCHERS:
            raise TooMany(MAX_WATCHERS)
        self._change(self._now.with_watcher(name, box))

    def drop_watcher(self, name):
        """Take a watcher away."""
        _need_known(name, self._now.boxes)
        self._change(self._now.without_watcher(name))

    def read(self, word, *, times=1):
        """Lead all watchers along a word, repeated so often."""
        need_word(word)
        need_number(times, 0, MAX_TIMES)
        need_over(self._letters, word)
        self._change(self._now.behind(word, times))

    def restart(self):
        """Lead all watchers back to their places 0."""
        self._change(self._now.begun())

    def guesses(self, name):
        """The names of the machines with a word that leads the box of a watcher to its place."""
        _need_known(name, self._now.boxes)
        box, place = self._now.boxes[name], self._now.stood[name]
        return tuple([other for other, machine in self.machines.items() if word_to(machine, box, place) is not None])

    def shared_guesses(self):
        """The names of the machines that have words and are among the guesses of each watcher."""
        guesses = [self.guesses(name) for name in self._now.names]
        return tuple([name for name, machine in self.machines.items()
                      if not machine.is_empty and all([name in held for held in guesses])])

    def joint_guesses(self):
        """The names of the machines with one word that leads the box of each watcher to its place."""
        stand = tuple([self._now.stood[name] for name in self._now.names])
        return tuple([name for name, seen in self._jointly_seen().items() if stand in seen])

    def doubts(self, name):
        """The pairs of names of machines that the box of a watcher does not tell apart."""
        _need_known(name, self._now.boxes)
        machines, box = self.machines, self._now.boxes[name]
        return tuple([pair for pair in _pairs(list(machines))
                      if not tells_apart(machines[pair[0]], machines[pair[1]], box)])

    def joint_doubts(self):
        """The pairs of names of machines with words that lead the box of each watcher to one place."""
        seen = self._jointly_seen()
        return tuple([(one, other) for one, other in _pairs(list(seen))
                      if any([stand in seen[other] for stand in seen[one]])])

    def undo(self, *, many=1):
        """Take back so many changes; how many can then be taken back."""
        _need_many(many)
        if many > self._at:
            raise NothingToUndo(many)
        return self._go(self._at - many)

    def redo(self, *, many=1):
        """Do so many changes again that were taken back; how many can then be taken back."""
        _need_many(many)
        if many > len(self._moments) - 1 - self._at:
            raise NothingToUndo(many)
        return self._go(self._at + many)

    def attempt(self):
        """A block behind which the room is as it was when the block was entered."""
        return Block(self)

    def during(self, call):
        """What `call(room)` returns in a block behind which the room is as it was."""
        with self.attempt() as same:
            return call(same)

    def twin(self):
        """An independent equal room, with the same changes to take back and to do again."""
        room = Room(self._letters)
        room._moments = list(self._moments)
        room._go(self._at)
        return room

    def __getitem__(self, at):
        _need_known(at, self._now.boxes)
        return self._now.stood[at]

    def __contains__(self, x):
        return _is_known(x, self._now.boxes)

    def __iter__(self):
        return iter(self._now.names)

    def __len__(self):
        return len(self._now.names)

    def __eq__(self, other):
        return (isinstance(other, Room) and self._letters == other._letters
                and self._now.known == other._now.known and self._now.boxes == other._now.boxes
                and self._now.stood == other._now.stood and self._now.was_read == other._now.was_read)

    def __str__(self):
        return f"room of {len(self._now.known)} machines, {len(self._now.boxes)} watchers"

    def _change(self, moment):
        del self._moments[self._at + 1:]
        self._moments.append(moment)
        self._go(self._at + 1)

    def _go(self, at):
        self._at = at
        self._now = self._moments[at]
        return at

    def _need_free(self, name, named, letters):
        if name in named or letters != self._letters:
            raise InvalidOperation("the name is not free, or the set of letters is another one")

    def _jointly_seen(self):
        """For each machine a dict of the tuples of places of all watchers to which one word of it leads."""
        machines = self.machines
        if machines == {}:
            return {}
        joint = Joint(len(self._letters), [self._now.boxes[name] for name in self._now.names], MAX_JOINT)
        return {name: joint.seen(machine) for name, machine in machines.items()}


def _ascending(named):
    return {name: named[name] for name in sorted(list(named))}


def _pairs(names):
    """All pairs of two names, the lesser one first; the names are ascending."""
    return [(one, other) for at, one in enumerate(names) for other in names[at + 1:]]


def _is_known(value, named):
    return isinstance(value, str) and value in named


def _need_known(name, named):
    if not _is_known(name, named):
        raise UnknownName(name)


def _need_name(name):
    if not is_word(name) or not 1 <= len(name) <= _MAX_NAME:
        raise InvalidOperation("no name")


def _need_many(many):
    if not is_integer(many) or many < 0:
        raise InvalidNumber(many)
