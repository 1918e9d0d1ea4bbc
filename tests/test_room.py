"""A room of watchers: changes, guesses and doubts, errors in their order, taking back, blocks, twins."""

import itertools
import random
import time
import unittest

from plain import (CLOSES, EVEN, LATCH, ODD, OPENS, SOME, SWITCH, VALUES, Argument, check_arguments, check_error,
                   is_box, is_machine, is_plain_number, is_plain_word, led_to, number_from, random_box, random_machine,
                   words_up_to)
from watchkinds.base.joined import of_words
from watchkinds.base.machines import Machine
from watchkinds.boxes.boxes import Box
from watchkinds.errors import (InvalidBox, InvalidMachine, InvalidNumber, InvalidOperation, InvalidWord, NothingToUndo,
                               Refused, TooMany, UnknownName)
from watchkinds.room.room import MAX_JOINT, MAX_MACHINES, MAX_WATCHERS, Room
from watchkinds.rows.levels import row_box

EMPTY = Machine("ab", ((0, 0),))
NAMES = ("a", "b", "even", "odd", "z", "abcdefgh", "some", "none", "y", "x")


def is_name(value):
    return is_plain_word(value) and 1 <= len(value) <= 8


def made_room():
    room = Room("ab")
    room.add_machine("even", EVEN)
    room.add_machine("odd", ODD)
    room.add_watcher("ends", Box.window("ab", 1))
    room.add_watcher("rests", Box.rests("ab", 2))
    return room


def state_of(room):
    """All that can be seen of a room."""
    return (room.letters, [(name, machine.table, machine.ends) for name, machine in room.machines.items()],
            [(name, box.table) for name, box in room.watchers.items()], room.places, list(room), len(room), str(room),
            room.twin().undo(many=0))


def ring_box(*sizes):
    """A box of one letter that goes round a ring with as many places as the product of the sizes."""
    row = tuple((size, 0, ({tuple(held - 1 for held in sizes[:at]): tuple(range(1, size)) + (0,)},))
                for at, size in enumerate(sizes))
    return row_box("a", row)


class Calls(unittest.TestCase):
    def test_adding_and_dropping(self):
        room = Room("ab")
        self.assertEqual((room.letters, room.machines, room.watchers, room.places, list(room), len(room), str(room)),
                         ("ab", {}, {}, {}, [], 0, "room of 0 machines, 0 watchers"))
        for name, machine in (("odd", ODD), ("even", EVEN), ("same", EVEN)):
            self.assertIsNone(room.add_machine(name, machine))
        self.assertEqual(list(room.machines.items()), [("even", EVEN), ("odd", ODD), ("same", EVEN)])
        for name, box in (("same", LATCH), ("last", Box.window("ab", 2)), ("odd", SWITCH)):
            self.assertIsNone(room.add_watcher(name, box))
        self.assertEqual(list(room.watchers.items()), [("last", Box.window("ab", 2)), ("odd", SWITCH), ("same", LATCH)])
        self.assertEqual((list(room.places.items()), list(room), len(room), str(room)),
                         ([("last", 0), ("odd", 0), ("same", 0)], ["last", "odd", "same"], 3,
                          "room of 3 machines, 3 watchers"))
        self.assertIsNone(room.drop_machine("same"))
        self.assertIsNone(room.drop_watcher("odd"))
        self.assertEqual((sorted(room.machines), sorted(room.watchers)), (["even", "odd"], ["last", "same"]))
        self.assertEqual(["same" in room, "odd" in room, "even" in room], [True, False, False])

    def test_places(self):
        some = random.Random(121)
        for letters in ("a", "ab", "abc"):
            room = Room(letters)
            boxes = {name: random_box(some, letters, some.randint(1, 6)) for name in NAMES[:5]}
            for name, box in boxes.items():
                room.add_watcher(name, box)
            read = ""
            for size in (0, 1, 3, 2, 5, 0):
                word, times = "".join(some.choices(letters, k=size)), some.randint(0, 3)
                self.assertIsNone(room.read(word, times=times))
                read += word * times
                self.assertEqual(room.places, {name: led_to(boxes[name], read) for name in sorted(boxes)})
                self.assertEqual([room[name] for name in room], list(room.places.values()))
            for times in (10 ** 11, 10 ** 11 - 1, 12345678901):
                before = room.places
                room.read("aa" + letters, times=times)
                self.assertEqual(room.places, {name: box.place("aa" + letters, before[name], times=times)
                                               for name, box in sorted(boxes.items())})
            self.assertIsNone(room.restart())
            self.assertEqual(set(room.places.values()), {0})

    def test_letters_cut_as_one_likes(self):
        one, other = made_room(), made_room()
        word = "abbabaabab"
        one.read(word)
        for letter in word:
            other.read(letter)
        self.assertEqual((one == other, one.places), (True, other.places))
        other.restart()
        other.read("")
        other.read(word[:4])
        other.read("b", times=0)
        other.read(word[4:])
        self.assertEqual(one, other)

    def test_eight_machines_and_six_watchers(self):
        self.assertEqual((MAX_MACHINES, MAX_WATCHERS, MAX_JOINT), (8, 6, 20000))
        room = Room("ab")
        for name in NAMES[:8]:
            room.add_machine(name, EVEN)
        check_error(self, room.add_machine, ("new", ODD), TooMany, "limit", 8)
        check_error(self, room.add_machine, (NAMES[0], ODD), InvalidOperation)
        check_error(self, room.add_machine, ("new", Machine("a", ((0,),))), InvalidOperation)
        for name in NAMES[:6]:
            room.add_watcher(name, LATCH)
        check_error(self, room.add_watcher, ("new", LATCH), TooMany, "limit", 6)
        check_error(self, room.add_watcher, (NAMES[0], LATCH), InvalidOperation)
        room.read("")
        check_error(self, room.add_watcher, ("new", LATCH), Refused, "reason", "read")
        check_error(self, room.add_watcher, (NAMES[0], LATCH), InvalidOperation)
        room.drop_machine(NAMES[3])
        room.drop_watcher(NAMES[2])
        self.assertIsNone(room.add_machine("new", ODD))
        room.restart()
        self.assertIsNone(room.add_watcher("new", SWITCH))
        self.assertEqual((len(room.machines), len(room)), (8, 6))

    def test_refused_behind_read(self):
        for word, times in (("a", 1), ("", 1), ("a", 0), ("", 0), ("ab", 10 ** 11)):
            room = made_room()
            room.read(word, times=times)
            check_error(self, room.add_watcher, ("late", LATCH), Refused, "reason", "read")
            room.undo()
            self.assertIsNone(room.add_watcher("late", LATCH))
            room.undo()
            room.read(word, times=times)
            room.restart()
            self.assertIsNone(room.add_watcher("late", LATCH))
        room = Room("ab")
        room.restart()
        room.add_watcher("late", LATCH)
        # Machines can come and watchers go behind what was read.
        room.read("a")
        room.add_machine("even", EVEN)
        room.drop_watcher("late")
        check_error(self, room.add_watcher, ("late", LATCH), Refused, "reason", "read")

    def test_asking(self):
        room = made_room()
        room.read("ab")
        for value in VALUES:
            known = type(value) is str and value in ("ends", "rests")
            self.assertIs(value in room, known)
            if not known:
                for call in (room.__getitem__, room.guesses, room.doubts, room.drop_watcher):
                    check_error(self, call, (value,), UnknownName, "name", value)
            if not (type(value) is str and value in ("even", "odd")):
                check_error(self, room.drop_machine, (value,), UnknownName, "name", value)
        self.assertEqual((room["ends"], room["rests"]), (Box.window("ab", 1)("ab"), Box.rests("ab", 2)("ab")))

    def test_equality(self):
        rooms = []
        for order in itertools.permutations(range(3)):
            room = Room("ab")
            for at in order:
                room.add_machine(NAMES[at], (EVEN, ODD, SOME)[at])
                room.add_watcher(NAMES[at], (LATCH, SWITCH, LATCH)[at])
            rooms.append(room)
        self.assertTrue(all(one == other and not one != other for one in rooms for other in rooms))
        base = rooms[0]
        changes = [lambda room: room.read(""), lambda room: room.read("a"), lambda room: room.drop_machine("a"),
                   lambda room: room.drop_watcher("b"), lambda room: room.add_machine("new", EVEN),
                   lambda room: room.add_watcher("new", LATCH)]
        for change in changes:
            room = base.twin()
            change(room)
            self.assertTrue(room != base and not room == base)
            room.undo()
            self.assertEqual(room, base)
        # One was read, the other one not, though all stand at their places 0.
        one, other = base.twin(), base.twin()
        one.read("b", times=0)
        self.assertEqual((one == other, one.places == other.places), (False, True))
        one.restart()
        self.assertEqual(one, other)
        self.assertNotEqual(Room("a"), Room("ab"))
        for value in VALUES:
            self.assertEqual((base == value, base != value), (False, True))
        self.assertEqual((Room("ab") == Room("ab"), Room("abc") == Room("abc")), (True, True))


class Guesses(unittest.TestCase):
    def rooms(self, many, seed):
        """Rooms of small machines and boxes, so that words of few letters tell all, and what was read."""
        some = random.Random(seed)
        for _ in range(many):
            letters = some.choice(("a", "ab"))
            machines = {name: random_machine(some, letters, some.choice((1, 2))) for name in NAMES[:some.randint(0, 4)]}
            boxes = {name: random_box(some, letters, 2) for name in NAMES[5:5 + some.randint(0, 2)]}
            room = Room(letters)
            for name, machine in machines.items():
                room.add_machine(name, machine)
            for name, box in boxes.items():
                room.add_watcher(name, box)
            word = "".join(some.choices(letters, k=some.randint(0, 5)))
            if some.random() < 0.8:
                room.read(word)
            else:
                word = ""
            yield room, machines, boxes, word

    def test_guesses_and_doubts_against_words(self):
        seen = set()
        for room, machines, boxes, word in self.rooms(120, 123):
            words = words_up_to(room.letters, 8)
            stands = {name: [(tuple(led_to(boxes[box], made) for box in sorted(boxes))) for made in words
                             if led_to(machine, made) in machine.ends] for name, machine in machines.items()}
            here = tuple(led_to(boxes[box], word) for box in sorted(boxes))
            pairs = [(one, other) for one, other in itertools.combinations(sorted(machines), 2)]
            for at, name in enumerate(sorted(boxes)):
                met = {machine: {stand[at] for stand in held} for machine, held in stands.items()}
                guesses = tuple(machine for machine in sorted(machines) if here[at] in met[machine])
                self.assertEqual(room.guesses(name), guesses)
                doubts = tuple((one, other) for one, other in pairs if met[one] & met[other])
                self.assertEqual(room.doubts(name), doubts)
            shared = tuple(machine for machine in sorted(machines)
                           if stands[machine] and all(machine in room.guesses(name) for name in boxes))
            joint = tuple(machine for machine in sorted(machines) if here in stands[machine])
            joint_doubts = tuple((one, other) for one, other in pairs if set(stands[one]) & set(stands[other]))
            self.assertEqual((room.shared_guesses(), room.joint_guesses()), (shared, joint))
            self.assertEqual(room.joint_doubts(), joint_doubts)
            # What makes a word of a machine is guessed by all.
            for name, machine in machines.items():
                if word in machine:
                    self.assertTrue(name in joint and name in shared)
            self.assertLessEqual(set(joint), set(shared))
            self.assertTrue(all(set(joint_doubts) <= set(room.doubts(name)) for name in boxes))
            seen.add((len(shared) - len(joint) > 0, len(boxes), len(machines)))
        self.assertGreater(len(seen), 12)

    def test_many_watchers(self):
        some = random.Random(124)
        for _ in range(20):
            room = Room("ab")
            machines = {name: random_machine(some, "ab", 3) for name in NAMES[:8]}
            boxes = {name: random_box(some, "ab", some.choice((2, 3))) for name in NAMES[:6]}
            for name in machines:
                room.add_machine(name, machines[name])
            for name in boxes:
                room.add_watcher(name, boxes[name])
            room.read("".join(some.choices("ab", k=12)))
            met = {}
            for name, machine in machines.items():
                queue = [(0,) * 7]
                for held in queue:
                    for column in range(2):
                        after = (machine.table[held[0]][column],) + tuple(
                            boxes[box].table[place][column] for box, place in zip(sorted(boxes), held[1:]))
                        if after not in queue:
                            queue.append(after)
                met[name] = {held[1:] for held in queue if held[0] in machine.ends}
            here = tuple(room.places.values())
            self.assertEqual(room.joint_guesses(), tuple(name for name in sorted(met) if here in met[name]))
            self.assertEqual(room.joint_doubts(), tuple((one, other) for one in sorted(met) for other in sorted(met)
                                                        if one < other and met[one] & met[other]))

    def test_nobody_there(self):
        room = Room("ab")
        for call in (room.shared_guesses, room.joint_guesses, room.joint_doubts):
            self.assertEqual(call(), ())
        for name, machine in (("none", EMPTY), ("even", EVEN), ("odd", ODD), ("also", EMPTY)):
            room.add_machine(name, machine)
        for _ in range(2):
            # Without watchers all machines that have words are guessed.
            self.assertEqual((room.shared_guesses(), room.joint_guesses()), (("even", "odd"),) * 2)
            self.assertEqual(room.joint_doubts(), (("even", "odd"),))
            room.read("a")
        room.restart()
        room.add_watcher("blind", Box("ab", ((0, 0),)))
        self.assertEqual((room.guesses("blind"), room.shared_guesses(), room.joint_guesses()), (("even", "odd"),) * 3)
        self.assertEqual((room.doubts("blind"), room.joint_doubts()), ((("even", "odd"),),) * 2)
        only = Room("ab")
        only.add_watcher("alone", LATCH)
        self.assertEqual((only.guesses("alone"), only.doubts("alone"), only.joint_guesses(), only.joint_doubts()),
                         ((),) * 4)

    def test_shared_but_not_joint(self):
        """Each watcher sees a word of the machine, but no word is seen by both."""
        room = Room("ab")
        room.add_machine("two", of_words("ab", ("ab", "ba")))
        room.add_watcher("first", Box.heads("ab", 1))
        room.add_watcher("last", Box.window("ab", 1))
        room.read("aa")
        self.assertEqual((room.shared_guesses(), room.joint_guesses()), (("two",), ()))

    def test_twenty_thousand_tuples_and_one_more(self):
        room = Room("a")
        # Without machines nothing is looked at.
        for name, sizes in (("b", (5, 5, 5, 5)), ("c", (2, 2, 2, 2, 2))):
            room.add_watcher(name, ring_box(*sizes))
        self.assertEqual([len(box) for box in room.watchers.values()], [625, 32])
        room.add_machine("all", Machine("a", ((0,),), (0,)))
        room.read("a", times=12345)
        self.assertEqual((room.joint_guesses(), room.joint_doubts()), (("all",), ()))
        room.add_machine("more", Machine("a", ((1,), (1,)), (1,)))
        for call in (room.joint_guesses, room.joint_doubts):
            check_error(self, call, (), TooMany, "limit", 20000)
        self.assertEqual((room.shared_guesses(), room.guesses("b")), (("all", "more"),) * 2)
        room.drop_machine("all")
        check_error(self, room.joint_doubts, (), TooMany, "limit", 20000)
        room.drop_machine("more")
        room.restart()
        room.add_watcher("d", ring_box(3))
        self.assertEqual((room.joint_guesses(), room.joint_doubts()), ((), ()))
        room.add_machine("empty", Machine("a", ((0,),)))
        for call in (room.joint_guesses, room.joint_doubts):
            check_error(self, call, (), TooMany, "limit", 20000)

    def test_time(self):
        room = Room("ab")
        for name in NAMES[:8]:
            room.add_machine(name, Machine("ab", ((0, 0),), (0,)))
        room.add_watcher("twelve", Box.rests("ab", 12))
        room.add_watcher("eleven", Box.rests("ab", 11))
        begin = time.perf_counter()
        room.read("ab" * 200, times=10 ** 11)
        self.assertEqual(len(room.joint_guesses()), 8)
        self.assertEqual(len(room.joint_doubts()), 28)
        self.assertEqual(len(room.shared_guesses()), 8)
        room.drop_machine("a")
        room.add_machine("last", CLOSES)
        check_error(self, room.joint_guesses, (), TooMany, "limit", 20000)
        self.assertLess(time.perf_counter() - begin, 20)


class Errors(unittest.TestCase):
    def test_wrong_arguments(self):
        name = Argument("new", is_name, InvalidOperation)
        machine = Argument(SOME, lambda value: is_machine(value) and value.letters == "ab", InvalidMachine)
        box = Argument(LATCH, lambda value: is_box(value) and value.letters == "ab", InvalidBox)
        wrong_letters = [value for value in VALUES if (is_machine(value) or is_box(value)) and value.letters != "ab"]
        self.assertGreater(len(wrong_letters), 1)
        for argument in (machine, box):
            argument.wrong = lambda argument=argument: [
                value for value in VALUES if not argument.is_good(value) and value not in wrong_letters]
        check_arguments(self, lambda *values: made_room().add_machine(*values), [name, machine])
        check_arguments(self, lambda *values: made_room().add_watcher(*values), [name, box])
        word = Argument("ab", is_plain_word, InvalidWord)
        times = Argument(2, number_from(0, 10 ** 11), InvalidNumber, "value")
        check_arguments(self, lambda one, two: made_room().read(one, times=two), [word, times])
        letters = Argument("ab", lambda value: value in ("a", "z", "ab", "abc") and type(value) is str,
                           InvalidOperation)
        letters.wrong = lambda: [value for value in VALUES if not (
            is_plain_word(value) and 1 <= len(value) <= 3 and list(value) == sorted(set(value)))]
        check_arguments(self, Room, [letters])
        many = Argument(0, lambda value: is_plain_number(value, 0, 10 ** 50), InvalidNumber, "value")
        check_arguments(self, lambda value: made_room().undo(many=value), [many])
        check_arguments(self, lambda value: made_room().redo(many=value), [many])

    def test_errors_in_their_order(self):
        room = made_room()
        short = Machine("a", ((0,),))
        check_error(self, room.add_machine, ("even", short), InvalidOperation)
        check_error(self, room.add_machine, ("even", None), InvalidMachine)
        check_error(self, room.add_machine, ("", None), InvalidOperation)
        check_error(self, room.add_watcher, ("ends", None), InvalidBox)
        check_error(self, room.add_watcher, (None, None), InvalidOperation)
        check_error(self, room.read, ("abc",), InvalidOperation)
        check_error(self, lambda: room.read("abc", times=-1), (), InvalidNumber, "value", -1)
        check_error(self, lambda: room.read("A", times=-1), (), InvalidWord)
        for many in (5, 10 ** 40 - 1):
            check_error(self, lambda: room.undo(many=many), (), NothingToUndo, "many", many)
        for many in (1, 7, 10 ** 40 - 1):
            check_error(self, lambda: room.redo(many=many), (), NothingToUndo, "many", many)

    def test_refused_calls_change_nothing(self):
        room = made_room()
        room.read("ab")
        room.undo()
        short, wide = Machine("a", ((0,),)), Box("abc", ((0, 0, 0),))
        calls = [lambda: room.add_machine("even", EVEN), lambda: room.add_machine("x", short),
                 lambda: room.add_machine("Even", EVEN), lambda: room.add_machine("x", None),
                 lambda: room.drop_machine("ends"), lambda: room.add_watcher("ends", LATCH),
                 lambda: room.add_watcher("x", wide), lambda: room.add_watcher("", LATCH),
                 lambda: room.drop_watcher("even"), lambda: room.read("abc"), lambda: room.read("a", times=-1),
                 lambda: room.read(None), lambda: room["x"], lambda: room.guesses("x"), lambda: room.doubts("even"),
                 lambda: room.undo(many=99), lambda: room.redo(many=2), lambda: room.undo(many=-1),
                 lambda: room.redo(many=None), lambda: room.during(None), lambda: room.attempt(1)]
        before = state_of(room)
        for call in calls:
            with self.assertRaises(Exception):
                call()
            self.assertEqual(state_of(room), before)
            # What was taken back can still be done again.
            self.assertEqual(room.twin().redo(), 5)


class History(unittest.TestCase):
    def test_long_histories(self):
        """Random changes, taken back and done again, against a list of all that was."""
        some = random.Random(125)
        for seed in range(6):
            room = Room("ab")
            past, at = [state_of(room)], 0
            for _ in range(250):
                kind = some.random()
                if kind < 0.55:
                    if self.change(some, room):
                        past = past[:at + 1] + [state_of(room)]
                        at += 1
                elif kind < 0.8:
                    many = some.choice((0, 1, 1, 2, 5, 30))
                    if many > at:
                        check_error(self, lambda: room.undo(many=many), (), NothingToUndo, "many", many)
                    else:
                        self.assertEqual(room.undo(many=many), at - many)
                        at -= many
                else:
                    many = some.choice((0, 1, 1, 2, 5, 30))
                    if many > len(past) - 1 - at:
                        check_error(self, lambda: room.redo(many=many), (), NothingToUndo, "many", many)
                    else:
                        self.assertEqual(room.redo(many=many), at + many)
                        at += many
                self.assertEqual(state_of(room), past[at])
            self.assertEqual(room.undo(many=at), 0)
            self.assertEqual((state_of(room), room), (past[0], Room("ab")))
            self.assertEqual(room.redo(many=len(past) - 1), len(past) - 1)
            self.assertEqual(state_of(room), past[-1])

    def change(self, some, room):
        """One change, or one that is refused; whether it was one."""
        name = some.choice(NAMES)
        calls = [lambda: room.add_machine(name, some.choice((EVEN, ODD, SOME, OPENS))),
                 lambda: room.drop_machine(name), lambda: room.add_watcher(name, some.choice((LATCH, SWITCH))),
                 lambda: room.drop_watcher(name), lambda: room.read(some.choice(("", "a", "ab")), times=2),
                 lambda: room.restart()]
        before = state_of(room)
        try:
            self.assertIsNone(some.choice(calls)())
        except (InvalidOperation, UnknownName, Refused, TooMany):
            self.assertEqual(state_of(room), before)
            return False
        return True

    def test_changes_that_leave_all_equal(self):
        room = Room("ab")
        for count, call in enumerate((lambda: room.restart(), lambda: room.read(""), lambda: room.read("a", times=0),
                                      lambda: room.restart()), 1):
            call()
            self.assertEqual(room.twin().undo(many=0), count)
        self.assertEqual([room.undo(), room.undo(), room.undo(), room.undo()], [3, 2, 1, 0])
        check_error(self, room.undo, (), NothingToUndo, "many", 1)
        self.assertEqual((room.undo(many=0), room.redo(many=0)), (0, 0))
        self.assertEqual(room.redo(many=4), 4)
        check_error(self, room.redo, (), NothingToUndo, "many", 1)

    def test_a_change_behind_an_undo(self):
        room = made_room()
        room.undo(many=2)
        self.assertEqual(room.redo(many=0), 2)
        room.restart()
        check_error(self, room.redo, (), NothingToUndo, "many", 1)
        self.assertEqual((list(room), room.undo(many=3)), ([], 0))
        self.assertEqual(room.redo(many=3), 3)
        # Asking is no change.
        room.undo()
        list(room), room.joint_guesses(), room.twin(), room.during(lambda same: same.restart())
        self.assertEqual(room.redo(), 3)

    def test_time(self):
        room = Room("ab")
        room.add_watcher("a", LATCH)
        begin = time.perf_counter()
        for _ in range(20000):
            room.read("ab")
        for _ in range(10000):
            room.undo()
        self.assertEqual((room.undo(many=5000), room.redo(many=15000)), (5001, 20001))
        self.assertLess(time.perf_counter() - begin, 10)


class Blocks(unittest.TestCase):
    def test_blocks(self):
        room = made_room()
        room.read("a")
        room.undo()
        before = state_of(room)
        with room.attempt() as same:
            self.assertIs(same, room)
            self.assertEqual(state_of(room), before)
            room.drop_machine("even")
            same.read("abab")
            self.assertEqual((room.undo(many=3), sorted(room.machines)), (3, ["even", "odd"]))
            room.restart()
        self.assertEqual(state_of(room), before)
        self.assertEqual((room.redo(), room.places), (5, {"ends": 1, "rests": 1}))

    def test_blocks_within_blocks(self):
        room = made_room()
        states = [state_of(room)]
        outer = room.attempt()
        with outer:
            room.read("a")
            states.append(state_of(room))
            # The same block can be entered once more, and others in it.
            with outer, room.attempt() as same:
                same.drop_watcher("ends")
                states.append(state_of(room))
                with outer:
                    room.undo(many=2)
                    self.assertEqual(state_of(room)[1:4], states[0][1:4])
                self.assertEqual(state_of(room), states[2])
            self.assertEqual(state_of(room), states[1])
            self.assertEqual(room.undo(), 4)
        self.assertEqual(state_of(room), states[0])
        waiting = room.attempt()
        room.read("b")
        with waiting:
            # The room is kept as it is when the block is entered, not when it is made.
            room.restart()
        self.assertEqual((room["rests"], room.undo(), room["rests"]), (Box.rests("ab", 2)("b"), 4, 0))

    def test_blocks_left_by_an_error(self):
        room = made_room()
        before = state_of(room)
        with self.assertRaises(UnknownName):
            with room.attempt():
                room.drop_machine("odd")
                room.drop_machine("odd")
        self.assertEqual(state_of(room), before)
        with self.assertRaises(ZeroDivisionError):
            with room.attempt():
                with room.attempt():
                    room.read("a")
                    raise ZeroDivisionError
        self.assertEqual(state_of(room), before)
        for _ in range(3):
            with room.attempt():
                room.restart()
                break
        self.assertEqual(state_of(room), before)

    def test_during(self):
        room = made_room()
        before = state_of(room)
        self.assertEqual(room.during(lambda same: (same is room, same.read("a"), same.places)),
                         (True, None, {"ends": 1, "rests": 1}))
        self.assertEqual(state_of(room), before)

        def fail(same):
            same.drop_machine("even")
            raise KeyError("even")

        check_error(self, room.during, (fail,), KeyError)
        self.assertEqual(state_of(room), before)
        self.assertEqual(room.during(lambda same: same.during(lambda again: again.twin().undo(many=4))), 0)
        self.assertIs(room.during(lambda same: same), room)

    def test_twins(self):
        room = made_room()
        room.read("a")
        room.undo(many=2)
        twin = room.twin()
        self.assertEqual((twin == room, twin is room, state_of(twin)), (True, False, state_of(room)))
        self.assertEqual(twin.redo(many=2), 5)
        self.assertEqual((room.twin().redo(many=2), list(room)), (5, ["ends"]))
        twin.drop_machine("odd")
        self.assertEqual(sorted(room.machines), ["even", "odd"])
        room.add_machine("new", SOME)
        check_error(self, room.redo, (), NothingToUndo, "many", 1)
        self.assertEqual((sorted(twin.machines), twin.undo(many=6)), (["even"], 0))
        with room.attempt():
            room.drop_machine("new")
            held = room.twin()
        self.assertEqual(("new" in room.machines, "new" in held.machines, held.undo()), (True, False, 4))


class Kept(unittest.TestCase):
    def test_iteration_while_the_room_changes(self):
        room = made_room()
        met = []
        for name in room:
            met.append(name)
            room.drop_watcher(name)
            room.add_watcher("z" + name[:1], LATCH)
        self.assertEqual((met, list(room)), (["ends", "rests"], ["ze", "zr"]))
        held = iter(room)
        room.drop_watcher("zr")
        self.assertEqual(list(held), ["ze", "zr"])
        self.assertEqual((list(room), sorted(room), [*room], max(room)), (["ze"], ["ze"], ["ze"], "ze"))

    def test_no_access_to_what_is_kept(self):
        room = made_room()
        before = state_of(room)
        for held in (room.machines, room.watchers, room.places):
            held["even"] = held["new"] = 5
            del held["new"]
            held.clear()
        self.assertEqual(state_of(room), before)
        with self.assertRaises(AttributeError):
            room.letters = "b"
        with self.assertRaises(AttributeError):
            room.places = {}
        self.assertEqual(state_of(room), before)

    def test_equal_calls_return_equal_results(self):
        room = made_room()
        room.read("aab")
        for call in (room.joint_guesses, room.shared_guesses, room.joint_doubts, lambda: room.guesses("ends"),
                     lambda: room.doubts("ends"), lambda: room.places, lambda: room.machines, lambda: list(room)):
            self.assertEqual(call(), call())
        self.assertIsNot(room.twin(), room.twin())


if __name__ == "__main__":
    unittest.main()
