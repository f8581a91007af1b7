"""The errors: what they derive from, and what they keep."""

import unittest

from groupsover import errors


class ErrorsTest(unittest.TestCase):
    def test_what_derives_from_what(self):
        direct = ("InvalidGroup", "InvalidFloor", "InvalidRow", "InvalidTest", "InvalidTable", "InvalidMap",
                  "InvalidName", "InvalidOperation", "ParseError")
        self.assertEqual(errors.OverError.__bases__, (ValueError,))
        for name in direct:
            self.assertEqual(getattr(errors, name).__bases__, (errors.OverError,))
        for name, base in (("InvalidNumber", IndexError), ("UnknownName", KeyError), ("NothingToUndo", LookupError),
                           ("TooMany", OverflowError), ("Refused", ArithmeticError)):
            self.assertEqual(getattr(errors, name).__bases__, (base,))

    def test_what_errors_keep(self):
        for name, attribute in (("ParseError", "spot"), ("InvalidNumber", "given"), ("UnknownName", "asked"),
                                ("NothingToUndo", "wanted"), ("TooMany", "limit"), ("Refused", "reason")):
            for kept in (None, True, 0, -5, "word", ("a", 1), [1], {"a": 2}, 10 ** 219):
                error = getattr(errors, name)(kept)
                self.assertIs(getattr(error, attribute), kept)
                self.assertIs(getattr(getattr(errors, name)(**{attribute: kept}), attribute), kept)

    def test_others_take_a_message_or_any_value(self):
        for name in ("OverError", "InvalidGroup", "InvalidFloor", "InvalidRow", "InvalidTest", "InvalidTable",
                     "InvalidMap", "InvalidName", "InvalidOperation"):
            for kept in ("a message", 5, None, (1, 2)):
                error = getattr(errors, name)(kept)
                self.assertIsInstance(error, ValueError)


if __name__ == "__main__":
    unittest.main()
