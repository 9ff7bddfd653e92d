"""Every example of the document, and what it tells in words."""

import doctest
import pathlib
import re
import unittest

from alikeplay.dice import dice_of, drawn, rolled
from alikeplay.drawing import view
from alikeplay.paths import cost_of

EXAMPLES = pathlib.Path(__file__).resolve().parent / "examples.txt"


class ExampleTests(unittest.TestCase):
    def test_examples(self):
        """Each part of the file is run by itself, as a session of its own."""
        parts = re.split(r"^# (.+)$", EXAMPLES.read_text(encoding="utf-8"), flags=re.M)
        titles, texts = parts[1::2], parts[2::2]
        self.assertEqual(len(texts), 11)
        calls = 0
        for title, text in zip(titles, texts):
            example = doctest.DocTestParser().get_doctest(text, {}, title, "examples.txt", 0)
            found = doctest.DocTestRunner().run(example)
            self.assertEqual(found.failed, 0, title)
            calls += found.attempted
        self.assertEqual(calls, 106)

    def test_dice(self):
        """Point 18."""
        self.assertEqual((dice_of(0), drawn(1), drawn(40014)), (1, 40014, 1601120196))
        self.assertEqual((rolled(1, 6)[0], 40013 % 6), (5, 5))

    def test_a_slow_cell_and_a_wall(self):
        """Point 122."""
        grid = (3, 3, ".#..~....")
        self.assertEqual(cost_of(grid, ((0, 1), (1, 1))), 3)
        self.assertIsNone(cost_of(grid, ((1, 1), (1, 0))))

    def test_a_sprite(self):
        """Point 132."""
        for is_mirrored, row in ((False, (7, 7, 5, 7)), (True, (7, 5, 7, 7))):
            self.assertEqual(view((("dot", 0, 3, 0, ((0, 5),), is_mirrored),), (2, 0, 6, 1), 7), (row,))


if __name__ == "__main__":
    unittest.main()
