"""Tests of the errors that the interface lists."""

import unittest

from trireme.errors import LimitError, ParseError, TriremeError


class ErrorsTest(unittest.TestCase):
    def test_bases(self):
        self.assertEqual(TriremeError.__bases__, (ValueError,))
        self.assertEqual(LimitError.__bases__, (TriremeError,))
        self.assertEqual(ParseError.__bases__, (TriremeError,))

    def test_parse_error_and_limit_error_are_not_each_other(self):
        self.assertFalse(issubclass(ParseError, LimitError))
        self.assertFalse(issubclass(LimitError, ParseError))

    def test_line_is_set_when_the_error_is_created(self):
        for line in (0, 7):
            with self.subTest(line=line):
                self.assertEqual(vars(ParseError(line)), {"line": line})
                self.assertIs(type(ParseError(line).line), int)

    def test_defined_under_their_headings(self):
        for error in (TriremeError, LimitError, ParseError):
            self.assertEqual(error.__module__, "trireme.errors")
        self.assertIn("__init__", vars(ParseError))


if __name__ == "__main__":
    unittest.main()
