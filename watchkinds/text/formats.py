"""Texts of machines, boxes, rows and blurs, written and read."""

from watchkinds.base.machines import Machine, need_machines
from watchkinds.base.values import ascends
from watchkinds.base.words import need_letters
from watchkinds.boxes.boxes import Box, need_box
from watchkinds.errors import InvalidOperation, ParseError
from watchkinds.rows.levels import is_row_of
from watchkinds.text.blurs import blur_lines, blur_of_lines
from watchkinds.text.fields import line_of, read_letters, read_number, read_numbers
from watchkinds.text.lines import Lines, each


def write_machine(machine):
    """The text of a machine."""
    need_machines((machine,))
    ends = line_of("ends", machine.ends if machine.ends else ["-"])
    return "\n".join(_table_lines("machine", "state", machine.letters, machine.table) + [ends])


def write_box(box):
    """The text of a box."""
    need_box(box)
    return "\n".join(_table_lines("box", "place", box.letters, box.table))


def write_row(letters, row):
    """The text of a row."""
    need_letters(letters)
    if not is_row_of(letters, row):
        raise InvalidOperation("no row for the set of letters")
    lines = [line_of("row", [letters, len(row)])]
    for values, first, rules in row:
        lines.append(line_of("level", [values, first]))
        for letter, rule in zip(letters, rules):
            for ahead in sorted(list(rule)):
                deed = rule[ahead] if isinstance(rule[ahead], tuple) else (rule[ahead],)
                lines.append(line_of(letter, [*ahead, ":", *deed]))
    return "\n".join(lines)


def write_blur(blur):
    """The text of a blur."""
    lines = blur_lines(blur)
    if lines is None:
        raise InvalidOperation("no blur that can be written")
    return "\n".join(lines)


def read_machine(text):
    """The machine with a text."""
    lines = Lines(text)
    letters, table = _read_table(lines, "machine", "state")
    fields = lines.fields("ends")
    ends = lines.all_read(lines.taken(() if fields == ["-"] else _read_ends(fields)))
    return Machine(letters, table, ends)


def read_box(text):
    """The box with a text."""
    lines = Lines(text)
    letters, table = _read_table(lines, "box", "place")
    return Box(lines.all_read(letters), table)


def read_row(text):
    """The pair of the letters and the row with a text."""
    lines = Lines(text)
    letters, many = lines.taken(each([read_letters, read_number], lines.fields("row")))
    row = lines.all_read(tuple([_read_level(lines, letters) for _ in range(many)]))
    if not is_row_of(letters, row):
        raise InvalidOperation("no row for the set of letters")
    return letters, row


def read_blur(text):
    """The blur with a text."""
    return blur_of_lines(Lines(text))


def is_blur_text(value):
    """Whether the value is a text of a blur."""
    try:
        read_blur(value)
    except ParseError:
        return False
    return True


def _table_lines(name, row_name, letters, table):
    return [line_of(name, [letters, len(table)])] + [line_of(row_name, row) for row in table]


def _read_table(lines, name, row_name):
    """The letters and the table that lines tell."""
    letters, many = lines.taken(each([read_letters, read_number], lines.fields(name)))
    readers = [read_number for _ in letters]
    return letters, tuple([tuple(lines.taken(each(readers, lines.fields(row_name)))) for _ in range(many)])


def _read_ends(fields):
    """The ends of some fields, or None."""
    ends = read_numbers(fields)
    return ends if ends and ascends(ends) else None


def _read_level(lines, letters):
    """The level that lines tell, up to the next level or the end of the text."""
    values, first = lines.taken(each([read_number, read_number], lines.fields("level")))
    rules = tuple([{} for _ in letters])
    last = None
    while not lines.is_read() and not lines.begins("level"):
        entry = _read_entry(letters, lines.next_line().split(" "))
        # Letter by letter, and by the values ahead; what does not come in this order cannot stand there.
        column, ahead, deed = lines.taken(entry if last is None or (entry is not None and entry[:2] > last) else None)
        rules[column][ahead] = deed
        last = column, ahead
    return values, first, rules


def _read_entry(letters, fields):
    """The index of the letter, the values ahead, and the deed of an entry; or None."""
    if fields[0] not in list(letters) or ":" not in fields:
        return None
    at = fields.index(":")
    ahead, deed = read_numbers(fields[1:at]), read_numbers(fields[at + 1:])
    if ahead is None or not deed:
        return None
    return letters.index(fields[0]), ahead, deed if len(deed) > 1 else deed[0]
