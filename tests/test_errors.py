"""The errors: each a class of its own, directly below ToldError."""

import unittest

from toldbyrest import errors

NAMES = [
    "DuplicateName", "InvalidBook", "InvalidCondition", "InvalidKept", "InvalidKind", "InvalidLacking", "InvalidLine",
    "InvalidMeeting", "InvalidName", "InvalidNumber", "InvalidPair", "InvalidRows", "InvalidSchema", "NotTold",
    "NothingToUndo", "UnknownColumn", "UnknownFlag", "UnknownRow", "UnknownStore", "UnknownTable",
]


class ErrorsTest(unittest.TestCase):
    def test_told_error_is_directly_below_value_error(self):
        self.assertEqual(errors.ToldError.__bases__, (ValueError,))
        self.assertEqual(str(errors.ToldError("why")), "why")

    def test_the_others_are_directly_below_told_error(self):
        for name in NAMES + ["ParseError"]:
            with self.subTest(name):
                self.assertEqual(getattr(errors, name).__bases__, (errors.ToldError,))
                self.assertEqual(getattr(errors, name).__name__, name)

    def test_there_are_no_further_ones(self):
        found = {cls.__name__ for cls in errors.ToldError.__subclasses__()}
        self.assertEqual(found, set(NAMES) | {"ParseError"})

    def test_they_are_made_from_a_string(self):
        for name in NAMES:
            with self.subTest(name):
                self.assertEqual(str(getattr(errors, name)("why")), "why")

    def test_each_is_raised_by_its_own_class(self):
        for name in NAMES:
            with self.subTest(name):
                with self.assertRaises(getattr(errors, name)) as caught:
                    raise getattr(errors, name)("why")
                self.assertIs(type(caught.exception), getattr(errors, name))

    def test_parse_error_has_its_line(self):
        self.assertEqual(errors.ParseError(0).line, 0)
        self.assertEqual(errors.ParseError(line=12).line, 12)
        with self.assertRaises(errors.ToldError) as caught:
            raise errors.ParseError(3)
        self.assertEqual(caught.exception.line, 3)
        self.assertIsInstance(str(caught.exception), str)


if __name__ == "__main__":
    unittest.main()
