"""The lines of a text, read one after the other."""

from watchkinds.errors import ParseError


class Lines:
    """The lines of a text, and the index of the one that is read next."""

    def __init__(self, text):
        if not isinstance(text, str):
            raise ParseError(None)
        self.lines = text.split("\n")
        self.at = 0

    def next_line(self):
        """The next line, which has to be there."""
        if self.is_read():
            raise ParseError(self.at)
        return self.lines[self.at]

    def begins(self, text):
        """Whether there is a next line, and begins with a text."""
        return self.at < len(self.lines) and self.lines[self.at].startswith(text)

    def is_read(self):
        """Whether no line is left."""
        return self.at == len(self.lines)

    def fields(self, name):
        """The fields of the next line behind this name, with which it has to begin."""
        fields = self.next_line().split(" ")
        if fields[0] != name:
            raise ParseError(self.at)
        return fields[1:]

    def taken(self, values):
        """Go on behind the line, of which these values were read; None is no value."""
        if values is None or None in values:
            raise ParseError(self.at)
        self.at += 1
        return values

    def all_read(self, value):
        """The value that was read, if no line is left."""
        if not self.is_read():
            raise ParseError(self.at)
        return value


def each(readers, fields):
    """What readers, one for each field, read of some fields; None if there are not just so many."""
    if len(readers) != len(fields):
        return None
    return [reader(field) for reader, field in zip(readers, fields)]
