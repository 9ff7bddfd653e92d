"""Point 8: the error classes, and the names and arguments of the interface."""

import unittest

from alikeplay import errors
from alikeplay.errors import BadGame, BadScript, BadValue, PlayError, TooLarge

BELOW = (BadValue, BadScript, BadGame, TooLarge)


class ErrorTests(unittest.TestCase):
    def test_all_are_play_errors(self):
        self.assertEqual(PlayError.__bases__, (ValueError,))
        for error in BELOW:
            self.assertEqual(error.__bases__, (PlayError,))

    def test_none_is_a_subclass_of_another(self):
        for one in BELOW:
            for other in BELOW:
                if one is not other:
                    self.assertFalse(issubclass(one, other))

    def test_each_has_its_own_init(self):
        for error in BELOW:
            self.assertIn("__init__", vars(error))
            self.assertEqual(error.__module__, errors.__name__)

    def test_bad_value(self):
        self.assertEqual(vars(BadValue("n")), {"name": "n"})

    def test_bad_script(self):
        self.assertEqual(vars(BadScript(1, 13, "wrong number of arguments")),
                         {"line": 1, "column": 13, "words": "wrong number of arguments"})

    def test_bad_game(self):
        self.assertEqual(vars(BadGame(("kinds", 2), "name")), {"where": ("kinds", 2), "why": "name"})

    def test_too_large(self):
        self.assertEqual(vars(TooLarge("code")), {"what": "code"})

    def test_they_are_caught_as_value_errors(self):
        for error in (PlayError(), BadValue("n"), BadScript(1, 1, "x"), BadGame((), "x"), TooLarge("x")):
            with self.assertRaises(ValueError):
                raise error


if __name__ == "__main__":
    unittest.main()
