"""Texts of machines, boxes, rows and blurs: there and back, and which line is refused."""

import random
import re
import time
import unittest

from plain import (CLOSES, EVEN, LATCH, VALUES, Argument, check_arguments, check_error, is_box, is_machine,
                   is_plain_letters, is_plain_number, is_plain_word, some_boxes, some_machines, some_pairs)
from watchkinds.base.joined import of_words, repeated
from watchkinds.base.machines import Machine
from watchkinds.boxes.boxes import Box
from watchkinds.errors import InvalidBox, InvalidMachine, InvalidOperation, ParseError, WatchError
from watchkinds.ladder.sorts import SORTS
from watchkinds.rows.levels import is_row_of
from watchkinds.rows.making import row_paper
from watchkinds.text.formats import (is_blur_text, read_blur, read_box, read_machine, read_row, write_blur, write_box,
                                     write_machine, write_row)
from watchkinds.turning.papers import blur_of

BOTH = ((2, 0, ({(): 1}, {})), (2, 0, ({(1,): (1, 0)}, {})))
ROW = ((3, 2, ({(): (1, 2, 0)}, {(): 0})), (2, 0, ({(0,): 1, (2,): (1, 0)}, {})), (4, 3, ({(1, 1): 2}, {(0, 0): 3})))
BLURS = [
    ("word", ""), ("word", "ab"), ("word", "z" * 500), ("end", "", "a", "bb", ""), ("begin", "a", "", "", "c"),
    ("blocks", ()), ("blocks", (("letter", "a"), ("block", ("", "ab", "a"), ("b", "ab", "")))),
    ("blocks", (("block", ("", "", ""), ("abc", "x", "")),)), ("counts", "", ("", ()), ("b", ())),
    ("counts", "ab", ("ab", ((0, "b", -1), (12, "", 0), (999999999999, "ab", -999999999999))), ("", ((3, "a", 10),))),
    ("counts", "abcz", ("", ()), ("", ())), ("walks", (), ()), ("walks", ((0, "a", 1), (1, "B", 0)), ()),
    ("walks", ((9, "z", 9),), ((0, "A", 3), (5, "a", 5), (5, "Z", 0))), ("recipe", ()), ("recipe", (("word", ""),)),
    ("recipe", (("word", "ab"), ("both", 0, 0), ("often", 1), ("word", "a" * 70), ("both", 2, 3), ("often", 0))),
]

NUMBER = "(?:0|[1-9][0-9]{0,11})"
SIGNED = f"(?:{NUMBER}|-[1-9][0-9]{{0,11}})"
WORD = "(?:-|[a-z]+)"


def matches(pattern, text):
    return re.fullmatch(pattern, text) is not None


def numbers_of(text):
    return [int(part) for part in re.findall(r"-?\d+", text)]


def ascends(values):
    return all(one < other for one, other in zip(values, values[1:]))


def lines_from(text, needed):
    """The first line that cannot stand there, or None: `needed` yields tests of lines, and is sent the lines."""
    lines = text.split("\n")
    judge = next(needed)
    for at, line in enumerate(lines):
        if judge is None or not judge(line):
            return at
        try:
            judge = needed.send(line)
        except StopIteration:
            judge = None
    return None if judge is None else len(lines)


def table_lines(name, row_name, has_ends):
    head = yield lambda line: matches(f"{name} [a-z]+ {NUMBER}", line) and is_plain_letters(line.split(" ")[1])
    width = len(head.split(" ")[1])
    for _ in range(int(head.split(" ")[2])):
        yield lambda line: matches(f"{row_name}(?: {NUMBER}){{{width}}}", line)
    if has_ends:
        yield lambda line: line == "ends -" or (matches(f"ends(?: {NUMBER})+", line) and ascends(numbers_of(line)))


def row_lines():
    head = yield lambda line: matches(f"row [a-z]+ {NUMBER}", line) and is_plain_letters(line.split(" ")[1])
    letters, many = head.split(" ")[1], int(head.split(" ")[2])
    last = [(-1, ())]

    def is_level(line):
        return matches(f"level {NUMBER} {NUMBER}", line)

    def key(line):
        return letters.find(line[0]), tuple(numbers_of(line.split(":")[0]))

    def is_entry(line):
        return matches(f"[{letters}](?: {NUMBER})* :(?: {NUMBER})+", line) and key(line) > last[0]

    left = many
    allowed = is_level if many else None
    while allowed is not None:
        line = yield allowed
        if is_level(line):
            left, last[0] = left - 1, (-1, ())
        else:
            last[0] = key(line)
        allowed = (lambda line: is_level(line) or is_entry(line)) if left else is_entry


def blur_lines():
    form = yield lambda line: any(matches(pattern, line) for pattern in (
        f"word {WORD}", f"(?:end|begin)(?: {WORD}){{4}}", f"(?:blocks|recipe) {NUMBER}", "walks",
        f"counts {WORD}")) and (not line.startswith("counts") or ascends(line.split(" ")[1]))
    name = form.split(" ")[0]
    if name == "blocks":
        for _ in range(int(form.split(" ")[1])):
            yield lambda line: matches(f"letter [a-z]|block(?: {WORD}){{3}} /(?: {WORD}){{3}}", line)
    if name == "counts":
        for _ in range(2):
            side = yield lambda line: matches(f"side {WORD} {NUMBER}", line)
            for _ in range(int(side.split(" ")[2])):
                yield lambda line: matches(f"ring {NUMBER} {WORD} {SIGNED}", line)
    if name == "walks":
        for _ in range(2):
            yield lambda line: matches("walk -|walk(?: [0-9][a-zA-Z][0-9])+", line)
    if name == "recipe":
        for at in range(int(form.split(" ")[1])):
            yield lambda line, at=at: matches(f"word {WORD}", line) or (
                matches(f"both {NUMBER} {NUMBER}|often {NUMBER}", line) and max(numbers_of(line)) < at)


def first_wrong(kind, text):
    """The index of the first line that cannot stand there, read with patterns, or None."""
    if kind == "row":
        # Behind the last level entries can go on up to the end of the text.
        lines = text.split("\n")
        found = lines_from(text, row_lines())
        if found == len(lines) and lines_left(lines) == 0:
            return None
        return found
    needed = {"machine": table_lines("machine", "state", True), "box": table_lines("box", "place", False),
              "blur": blur_lines()}[kind]
    return lines_from(text, needed)


def lines_left(lines):
    """How many levels the lines of a row lack."""
    return int(lines[0].split(" ")[2]) - sum(line.startswith("level") for line in lines)


READ = {"machine": read_machine, "box": read_box, "row": read_row, "blur": read_blur}


def write(kind, value):
    if kind == "row":
        return write_row(*value)
    return {"machine": write_machine, "box": write_box, "blur": write_blur}[kind](value)


def rows():
    """Rows with their letters: some by hand, others of boxes."""
    found = [("ab", ROW), ("ab", BOTH), ("ab", ()), ("a", ((12, 11, ({(): 11},)),)), ("abc", ((2, 1, ({}, {}, {})),))]
    return found + [(box.letters, row_paper(box)[0]) for box in some_boxes("ab", 8, 1201, places=(2, 3, 4))]


class ThereAndBack(unittest.TestCase):
    def test_machines_and_boxes(self):
        machines = [machine for letters in ("a", "ab", "abc", "xz") for machine in some_machines(letters, 12, 1202)]
        for machine in machines:
            text = write_machine(machine)
            self.assertEqual((read_machine(text), text), (machine, self.plain_text(machine)))
        for box in [box for letters in ("a", "ab", "abc") for box in some_boxes(letters, 12, 1203)]:
            text = write_box(box)
            self.assertEqual((read_box(text), text), (box, self.plain_text(box)))
        self.assertEqual(write_machine(CLOSES), "machine ab 2\nstate 1 0\nstate 1 0\nends 1")
        self.assertEqual(write_machine(Machine("a", ((0,),))), "machine a 1\nstate 0\nends -")
        self.assertEqual(write_box(LATCH), "box ab 2\nplace 1 0\nplace 1 1")

    def plain_text(self, thing):
        name, row_name = ("machine", "state") if is_machine(thing) else ("box", "place")
        lines = [f"{name} {thing.letters} {len(thing.table)}"]
        lines += [row_name + "".join(f" {after}" for after in row) for row in thing.table]
        if is_machine(thing):
            lines.append("ends " + (" ".join(map(str, thing.ends)) or "-"))
        return "\n".join(lines)

    def test_rows(self):
        for letters, row in rows():
            text = write_row(letters, row)
            self.assertEqual(read_row(text), (letters, row))
            self.assertEqual(first_wrong("row", text), None)
        self.assertEqual(write_row("ab", ROW), "\n".join([
            "row ab 3", "level 3 2", "a : 1 2 0", "b : 0", "level 2 0", "a 0 : 1", "a 2 : 1 0", "level 4 3",
            "a 1 1 : 2", "b 0 0 : 3"]))
        # Entries are written in their order, whatever order they have in the dict.
        turned = ((2, 0, ({}, {})), (2, 1, ({(1,): 0, (0,): 1}, {(1,): (1, 0), (0,): (0, 1)})))
        self.assertEqual(write_row("ab", turned), "\n".join([
            "row ab 2", "level 2 0", "level 2 1", "a 0 : 1", "a 1 : 0", "b 0 : 0 1", "b 1 : 1 0"]))
        self.assertEqual(read_row("row abc 0"), ("abc", ()))

    def test_blurs(self):
        for blur in BLURS:
            text = write_blur(blur)
            self.assertEqual(read_blur(text), blur)
            self.assertIs(is_blur_text(text), True)
            self.assertIsNone(first_wrong("blur", text))
        self.assertEqual(write_blur(BLURS[6]), "blocks 2\nletter a\nblock - ab a / b ab -")
        self.assertEqual(write_blur(("counts", "", ("", ((1, "b", -1),)), ("ab", ()))),
                         "counts -\nside - 1\nring 1 b -1\nside ab 0")
        self.assertEqual(write_blur(("walks", ((0, "a", 1), (1, "B", 0)), ())), "walks\nwalk 0a1 1B0\nwalk -")
        self.assertEqual(write_blur(("recipe", (("word", "ab"), ("both", 0, 0), ("often", 1)))),
                         "recipe 3\nword ab\nboth 0 0\noften 1")
        self.assertEqual(write_blur(("begin", "a", "", "b", "")), "begin a - b -")

    def test_blurs_that_are_found(self):
        forms = set()
        for one, other in some_pairs(40, 1204, states=(2, 3), alphabets=("a", "ab")):
            for sort in SORTS:
                blur = blur_of(one, other, sort)
                if blur is not None:
                    self.assertEqual(read_blur(write_blur(blur)), blur)
                    forms.add(blur[0])
        self.assertEqual(forms, {"word", "end", "begin", "blocks", "counts", "walks", "recipe"})

    def test_great_machines_and_boxes(self):
        great = repeated(of_words("ab", ("aabab", "bab")))
        self.assertEqual(write_machine(great), self.plain_text(great))
        check_error(self, read_machine, (write_machine(great),), InvalidMachine)
        box = Box.rests("ab", 12)
        self.assertEqual(write_box(box), self.plain_text(box))
        check_error(self, read_box, (write_box(box),), InvalidBox)


class Refused(unittest.TestCase):
    def check_text(self, kind, text):
        """Read as told: refused with the first wrong line, or a value that is written by the same text."""
        wrong = first_wrong(kind, text)
        if wrong is not None:
            check_error(self, READ[kind], (text,), ParseError, "line", wrong)
            if kind == "blur":
                self.assertIs(is_blur_text(text), False)
            return "line"
        try:
            value = READ[kind](text)
        except WatchError as found:
            self.assertEqual((type(found), kind in ("machine", "box", "row")), (
                {"machine": InvalidMachine, "box": InvalidBox, "row": InvalidOperation}.get(kind), True), text)
            return "value"
        self.assertEqual(write(kind, value), text)
        return "read"

    def texts(self):
        for machine in some_machines("ab", 4, 1205) + some_machines("abc", 2, 1206) + [CLOSES, Machine("a", ((0,),))]:
            yield "machine", write_machine(machine)
        for box in some_boxes("ab", 6, 1207):
            yield "box", write_box(box)
        for letters, row in rows()[:7]:
            yield "row", write_row(letters, row)
        for blur in BLURS:
            if len(write_blur(blur)) < 120:
                yield "blur", write_blur(blur)

    def test_one_sign_less_more_or_another(self):
        some = random.Random(131)
        seen = {}
        for kind, text in self.texts():
            made = [text[:at] + text[at + 1:] for at in range(len(text))]
            for at in range(len(text) + 1):
                for sign in some.sample("0123456789abcxyzABZ-/: \n.+%", 9) + ["0", "\n", " "]:
                    made.append(text[:at] + sign + text[at:])
                    made.append(text[:at] + sign + text[at + 1:])
            for changed in made:
                result = self.check_text(kind, changed)
                seen[(kind, result)] = seen.get((kind, result), 0) + 1
        self.assertGreater(min(seen.get((kind, "line"), 0) for kind in READ), 500)
        self.assertGreater(min(seen.get((kind, "read"), 0) for kind in READ), 50)
        self.assertGreater(min(seen.get((kind, "value"), 0) for kind in ("machine", "box", "row")), 50)

    def test_lines_less_more_or_elsewhere(self):
        some = random.Random(132)
        lines = sorted({line for _, text in self.texts() for line in text.split("\n")} | {"", "-", " "})
        for kind, text in self.texts():
            held = text.split("\n")
            for at in range(len(held) + 1):
                self.check_text(kind, "\n".join(held[:at]))
                self.check_text(kind, "\n".join(held[:at] + held[at + 1:]))
                for line in some.sample(lines, 12) + [""]:
                    self.check_text(kind, "\n".join(held[:at] + [line] + held[at:]))
                    self.check_text(kind, "\n".join(held[:at] + [line] + held[at + 1:]))
            self.check_text(kind, text + "\n")
            self.check_text(kind, "\n" + text)
            self.check_text(kind, text.replace(" ", "  "))
            self.check_text(kind, text.replace("\n", "\n\n"))
            self.check_text(kind, text.upper())
            for other in READ:
                self.check_text(other, text)

    def test_lines_that_are_told(self):
        """The index of the first line that cannot stand there, or the number of lines if one lacks."""
        told = [
            (read_machine, "", 0), (read_machine, "machine", 0), (read_machine, "machine ba 1\nstate 0 0\nends -", 0),
            (read_machine, "machine abcd 1\nstate 0 0 0 0\nends -", 0), (read_machine, "machine ab 1", 1),
            (read_machine, "machine ab 1\nstate 0 0", 2), (read_machine, "machine ab 1\nends -", 1),
            (read_machine, "machine ab 1\nstate 0\nends -", 1), (read_machine, "machine ab 1\nstate 0 0 0\nends -", 1),
            (read_machine, "machine ab 2\nstate 0 0\nstate 0 0\nends 1 0", 3),
            (read_machine, "machine ab 2\nstate 0 0\nstate 0 0\nends 1 1", 3),
            (read_machine, "machine a 1\nstate 0\nends", 2), (read_machine, "machine a 1\nstate 0\nends 0 -", 2),
            (read_machine, "machine a 1\nstate 0\nends -\n", 3), (read_machine, "machine a 1\nstate -0\nends -", 1),
            (read_machine, "machine a 1\nstate 00\nends -", 1), (read_machine, "machine a 01\nstate 0\nends -", 0),
            (read_machine, "machine a 1\nstate -1\nends -", 1), (read_machine, "machine a 1\nstate 0\nends -1", 2),
            (read_machine, "machine a 1\nstate 1000000000000\nends -", 1), (read_machine, "machine - 0\nends -", 0),
            (read_machine, "machine a 9999999999999\nstate 0\nends -", 0),
            (read_machine, "machine a 999999999999\nstate 0\nends -", 2),
            (read_machine, "machine a 5\nstate 0\nstate 0\nstate 0\nstate 0\nstate 0\nends -\nends -", 7),
            (read_box, "box ab 2\nplace 1 0", 2), (read_box, "box ab 1\nplace 0 0\n", 2), (read_box, "box ab 1\n", 1),
            (read_box, "box ab 7\n" + "place 0 0\n" * 7 + "x", 8),
            (read_row, "row ab 1", 1), (read_row, "row ab 0\n", 1), (read_row, "row ab 1\na : 1", 1),
            (read_row, "row ab 1\nlevel 2 0\nb : 1\na : 1", 3), (read_row, "row ab 1\nlevel 2 0\na : 1\na : 0", 3),
            (read_row, "row ab 1\nlevel 2 0\nc : 1", 2), (read_row, "row ab 1\nlevel 2 0\na :", 2),
            (read_row, "row ab 1\nlevel 2 0\na : -", 2), (read_row, "row ab 1\nlevel 2 0\na - : 1", 2),
            (read_row, "row ab 1\nlevel 2 0\na 1", 2), (read_row, "row ab 1\nlevel 2 0\na: 1", 2),
            (read_row, "row ab 1\nlevel 2 0\na : 1 :", 2), (read_row, "row ab 1\nlevel 2 0\nlevel 2 0", 2),
            (read_row, "row ab 2\nlevel 2 0\na : 1\na : 1\nlevel 2 0", 3), (read_row, "row ab 2\nlevel 2 0\na : 1", 3),
            (read_row, "row ab 2\nlevel 2 0\nlevel 2 0\na 1 : 0\na 0 : 0", 4),
            (read_row, "row ab 1\nlevel 2", 1), (read_row, "row ab 1\nlevel 2 -1", 1),
            (read_row, "row ba 1\nlevel 2 0", 0),
            (read_blur, "", 0), (read_blur, "word", 0), (read_blur, "word ", 0), (read_blur, "word a b", 0),
            (read_blur, "word a\n", 1), (read_blur, "word A", 0), (read_blur, "word --", 0), (read_blur, "words a", 0),
            (read_blur, "end a - b", 0), (read_blur, "begin a - b - -", 0), (read_blur, "blocks -1", 0),
            (read_blur, "blocks 1", 1), (read_blur, "blocks 1\nletter ab", 1), (read_blur, "blocks 1\nletter -", 1),
            (read_blur, "blocks 1\nblock a a a a a a", 1), (read_blur, "blocks 1\nblock a a a / a a", 1),
            (read_blur, "blocks 1\nblock a a / a a a a", 1), (read_blur, "blocks 0\nletter a", 1),
            (read_blur, "counts ba\nside - 0\nside - 0", 0), (read_blur, "counts aa\nside - 0\nside - 0", 0),
            (read_blur, "counts ab\nside - 0", 2), (read_blur, "counts ab\nside - 1\nside - 0", 2),
            (read_blur, "counts ab\nside - 1\nring 0 a -0\nside - 0", 2),
            (read_blur, "counts ab\nside - 1\nring -1 a 0\nside - 0", 2),
            (read_blur, "counts ab\nside - 1\nring 0 a 1000000000000\nside - 0", 2),
            (read_blur, "counts ab\nside - 1\nring 0 a -1000000000000\nside - 0", 2),
            (read_blur, "counts ab\nside - 0\nside - 0\nside - 0", 3), (read_blur, "walks\nwalk -", 2),
            (read_blur, "walks -\nwalk -\nwalk -", 0), (read_blur, "walks\nwalk\nwalk -", 1),
            (read_blur, "walks\nwalk 0a1 -\nwalk -", 1), (read_blur, "walks\nwalk 10a1\nwalk -", 1),
            (read_blur, "walks\nwalk 0ab1\nwalk -", 1), (read_blur, "walks\nwalk 0a\nwalk -", 1),
            (read_blur, "recipe 1\noften 0", 1), (read_blur, "recipe 2\nword a\nboth 0 1", 2),
            (read_blur, "recipe 2\nword a\noften 0 0", 2), (read_blur, "recipe 2\nword a\nboth 0", 2),
            (read_blur, "recipe 1\nletter a", 1), (read_blur, "recipe 2\nword a", 2), (read_blur, "recipe", 0),
        ]
        for call, text, line in told:
            check_error(self, call, (text,), ParseError, "line", line)
            kind = next(name for name in READ if READ[name] == call)
            self.assertEqual(first_wrong(kind, text), line, text)

    def test_sizes_are_looked_at_last(self):
        for text in ("machine ab 0\nends -", "machine a 5\n" + "state 0\n" * 5 + "ends -", "machine a 1\nstate 1\nends -",
                     "machine a 1\nstate 0\nends 1", "machine a 1\nstate 999999999999\nends -"):
            check_error(self, read_machine, (text,), InvalidMachine)
        for text in ("box ab 0", "box a 7" + "\nplace 0" * 7, "box a 1\nplace 1"):
            check_error(self, read_box, (text,), InvalidBox)
        for text in ("row a 1\nlevel 1 0", "row a 1\nlevel 13 0", "row a 1\nlevel 2 2", "row a 1\nlevel 2 0\na : 2",
                     "row a 1\nlevel 2 0\na : 0 0", "row a 1\nlevel 2 0\na : 0 1 2", "row a 1\nlevel 2 0\na 0 : 1",
                     "row a 2\nlevel 2 0\nlevel 2 0\na : 1", "row a 2\nlevel 2 0\nlevel 2 0\na 2 : 1"):
            check_error(self, read_row, (text,), InvalidOperation)
        seven = "row a 7" + "\nlevel 2 0" * 7
        self.assertEqual(read_row(seven), ("a", ((2, 0, ({},)),) * 7))

    def test_texts_of_any_length(self):
        begin = time.perf_counter()
        blur = ("recipe", (("word", "a"),) + tuple(("both", at, at) for at in range(20000)))
        self.assertEqual(read_blur(write_blur(blur)), blur)
        walks = ("walks", ((0, "a", 1),) * 50000, ())
        self.assertEqual(read_blur(write_blur(walks)), walks)
        word = ("word", "ab" * 100000)
        self.assertEqual(read_blur(write_blur(word)), word)
        check_error(self, read_blur, ("recipe 999999999999" + "\nword a" * 20000,), ParseError, "line", 20001)
        check_error(self, read_machine, ("machine a 999999999999" + "\nstate 0" * 20000,), ParseError, "line", 20001)
        self.assertLess(time.perf_counter() - begin, 10)


class WrongArguments(unittest.TestCase):
    def test_wrong_arguments(self):
        check_arguments(self, write_machine, [Argument(EVEN, is_machine, InvalidMachine)])
        check_arguments(self, write_box, [Argument(LATCH, is_box, InvalidBox)])
        letters = Argument("ab", is_plain_letters, InvalidOperation)
        row = Argument(BOTH, lambda value: is_row_of("ab", value), InvalidOperation)
        check_arguments(self, write_row, [letters, row])
        for value in VALUES:
            for call in READ.values():
                if type(value) is not str:
                    check_error(self, call, (value,), ParseError, "line", None)
            expected = type(value) is str and first_wrong("blur", value) is None
            self.assertIs(is_blur_text(value), expected, repr(value))
            for kind in READ:
                if type(value) is str and first_wrong(kind, value) is not None:
                    check_error(self, READ[kind], (value,), ParseError, "line", first_wrong(kind, value))

    def is_plain_form(self, value):
        """Whether the value has one of the forms of blurs that can be written."""
        def has(made, size):
            return type(made) is tuple and len(made) == size

        def many(made, test):
            return type(made) is tuple and all(test(part) for part in made)

        if type(value) is not tuple or not value or type(value[0]) is not str:
            return False
        if value[0] in ("word", "end", "begin"):
            return len(value) == (2 if value[0] == "word" else 5) and many(value[1:], is_plain_word)
        if value[0] == "blocks" and len(value) == 2:
            return many(value[1], lambda step: (has(step, 2) and step[0] == "letter" and is_plain_word(step[1])
                                                and len(step[1]) == 1)
                        or (has(step, 3) and step[0] == "block"
                            and all(has(side, 3) and many(side, is_plain_word) for side in step[1:])))
        if value[0] == "counts" and len(value) == 4:
            return is_plain_word(value[1]) and list(value[1]) == sorted(set(value[1])) and all(
                has(side, 2) and is_plain_word(side[0]) and many(side[1], lambda ring: has(ring, 3)
                    and is_plain_number(ring[0], 0, 10 ** 12 - 1) and is_plain_word(ring[1])
                    and is_plain_number(ring[2], 1 - 10 ** 12, 10 ** 12 - 1)) for side in value[2:])
        if value[0] == "walks" and len(value) == 3:
            return all(many(walk, lambda step: has(step, 3) and is_plain_number(step[0], 0, 9)
                            and type(step[1]) is str and matches("[a-zA-Z]", step[1])
                            and is_plain_number(step[2], 0, 9)) for walk in value[1:])
        if value[0] != "recipe" or len(value) != 2 or type(value[1]) is not tuple:
            return False
        return all((has(step, 2) and step[0] == "word" and is_plain_word(step[1]))
                   or (type(step) is tuple and (step[:1], len(step)) in ((("both",), 3), (("often",), 2))
                       and all(is_plain_number(index, 0, at - 1) for index in step[1:]))
                   for at, step in enumerate(value[1]))

    def replaced(self, value, path, other):
        if not path:
            return other
        return value[:path[0]] + (self.replaced(value[path[0]], path[1:], other),) + value[path[0] + 1:]

    def paths(self, value):
        found = [()]
        if type(value) is tuple:
            found += [(at,) + path for at, part in enumerate(value) for path in self.paths(part)]
        return found

    def part(self, value, path):
        for at in path:
            value = value[at]
        return value

    def test_values_that_cannot_be_written(self):
        some = random.Random(133)
        right = wrong = 0
        for blur in BLURS:
            for path in self.paths(blur):
                held = self.part(blur, path)
                made = some.sample(VALUES, 40) + [True, -1, 10, 10 ** 12, -10 ** 12, "", "A", "aB", "a-", None, ()]
                made += [held + held[-1:], held[1:], list(held)] if type(held) is tuple else [[held], (held,)]
                for other in made:
                    value = self.replaced(blur, path, other)
                    if self.is_plain_form(value):
                        self.assertEqual(read_blur(write_blur(value)), value)
                        right += 1
                    else:
                        check_error(self, write_blur, (value,), InvalidOperation)
                        wrong += 1
        self.assertGreater(right, 300)
        self.assertGreater(wrong, 2000)
        for value in VALUES:
            if self.is_plain_form(value):
                self.assertEqual(read_blur(write_blur(value)), value)
            else:
                check_error(self, write_blur, (value,), InvalidOperation)


if __name__ == "__main__":
    unittest.main()
