"""The errors: what each is derived from, what it takes and what it keeps."""

import unittest

from watchkinds import errors

from plain import VALUES

PLAIN = ("WatchError", "InvalidWord", "InvalidMachine", "InvalidBox", "InvalidOperation")
BASES = {
    "WatchError": ValueError, "InvalidWord": errors.WatchError, "InvalidMachine": errors.WatchError,
    "InvalidBox": errors.WatchError, "InvalidOperation": errors.WatchError, "ParseError": errors.WatchError,
    "UnknownName": KeyError, "InvalidNumber": RuntimeError, "TooMany": OverflowError,
    "NothingToUndo": IndexError, "Refused": ArithmeticError,
}
KEPT = {"ParseError": "line", "UnknownName": "name", "InvalidNumber": "value", "TooMany": "limit",
        "NothingToUndo": "many", "Refused": "reason"}
GREAT = [10 ** 6000, "x" * 10 ** 6, [[1] * 1000] * 1000, {"a": [None]}, object(), ValueError("a"), b"\x00", 1.5]


class Errors(unittest.TestCase):
    def test_direct_bases(self):
        for name, base in BASES.items():
            self.assertEqual(getattr(errors, name).__bases__, (base,), name)

    def test_five_are_no_watch_errors(self):
        for name in ("UnknownName", "InvalidNumber", "TooMany", "NothingToUndo", "Refused"):
            self.assertFalse(issubclass(getattr(errors, name), errors.WatchError), name)

    def test_defined_in_the_module(self):
        for name in BASES:
            self.assertEqual(getattr(errors, name).__module__, "watchkinds.errors")

    def test_plain_ones_take_one_argument_or_none(self):
        for name in PLAIN:
            made = getattr(errors, name)
            self.assertIsInstance(made(), BASES[name])
            for value in VALUES + GREAT:
                with self.assertRaises(made):
                    raise made(value)

    def test_the_others_keep_what_they_take(self):
        for name, kept in KEPT.items():
            made = getattr(errors, name)
            for value in VALUES + GREAT:
                with self.assertRaises(made) as caught:
                    raise made(value)
                self.assertIs(getattr(caught.exception, kept), value)
                self.assertIs(getattr(made(**{kept: value}), kept), value)

    def test_the_others_need_an_argument(self):
        for name in KEPT:
            with self.assertRaises(TypeError):
                getattr(errors, name)()


if __name__ == "__main__":
    unittest.main()
