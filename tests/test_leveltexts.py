"""Points 109, 110, 112 and 113: texts of levels."""

import unittest

from alikeplay.edits import made
from alikeplay.errors import BadScript, BadValue
from alikeplay.levels import is_level, merged
from alikeplay.leveltexts import level_text, read_level
from helpers import Cases, check_arguments, check_pure
from levels import EMPTY, FULL, HERO, LEVEL, MOB, NO_LEVELS, is_slow_name, is_slow_note, some_level

TEXT = ("grid 3 2\n...\n###\nthing hero walker 8 16 hp=3 mp=-1000\nthing mob slug -20000 20000\n"
        "note title Begin\nnote tune ~ !\n")
GRID = "grid 3 2\n...\n###\n"
# All texts of numbers that can stand in a level.
NUMBERS = {str(number): number for number in range(-20000, 20001)}


def slow_read(text):
    """Read a text by points 109 and 110, with patterns; return the level, or the line and the words of its problem."""
    if text[-1:] != "\n":
        return text.count("\n") + 1, "end"
    lines = text[:-1].split("\n")
    words = lines[0].split(" ")
    sizes = {str(number): number for number in range(1, 41)}
    if len(words) != 3 or words[0] != "grid" or words[1] not in sizes or words[2] not in sizes:
        return 1, "grid"
    columns, rows = sizes[words[1]], sizes[words[2]]
    for index in range(1, rows + 1):
        if index == len(lines) or len(lines[index]) != columns or lines[index].strip(".#^~"):
            return index + 1, "row"
    things, notes = [], []
    for index, line in enumerate(lines[rows + 1:], rows + 2):
        problems = []
        if line[:6] == "thing ":
            thing = slow_thing(line[6:])
            problems = ["thing" if thing is None else "", "line" if notes else "",
                        "order" if thing and things and things[-1][0] >= thing[0] else "", "many" if len(things) == 20 else ""]
            things.append(thing)
        elif line[:5] == "note ":
            key, _, words = line[5:].partition(" ")
            is_right = is_slow_note(key, words)
            problems = ["" if is_right else "note", "order" if is_right and notes and notes[-1][0] >= key else "",
                        "many" if len(notes) == 8 else ""]
            notes.append((key, words))
        else:
            problems = ["line"]
        if any(problems):
            return index, [words for words in problems if words][0]
    return (columns, rows, "".join(lines[1:rows + 1])), tuple(things), tuple(notes)


def slow_thing(text):
    words = text.split(" ")
    pairs = [word.split("=") for word in words[4:]]
    if len(words) < 4 or not all(map(is_slow_name, words[:2])) or any(len(pair) != 2 for pair in pairs) or len(pairs) > 6:
        return None
    if not all(word in NUMBERS for word in words[2:4]):
        return None
    for (key, word), behind in zip(pairs, pairs[1:] + [["~"]]):
        if not is_slow_name(key) or key >= behind[0] or word not in NUMBERS or abs(NUMBERS[word]) > 1000:
            return None
    return (*words[:2], *(NUMBERS[word] for word in words[2:4]), tuple((key, NUMBERS[word]) for key, word in pairs))


class WritingTests(unittest.TestCase):
    def test_document(self):
        text = "grid 3 2\n...\n###\nthing hero walker 8 16 hp=3\nnote title Begin\n"
        level = ((3, 2, "...###"), (("hero", "walker", 8, 16, (("hp", 3),)),), (("title", "Begin"),))
        self.assertEqual(read_level(text), level)
        after, stronger = made(level, ("area", 0, 0, 1, 0, "~"))[0], made(level, ("value", "hero", "hp", 5))[0]
        self.assertEqual(level_text(merged(level, after, stronger)[0]),
                         "grid 3 2\n~~.\n###\nthing hero walker 8 16 hp=5\nnote title Begin\n")

    def test_texts(self):
        self.assertEqual(level_text(LEVEL), TEXT)
        self.assertEqual(level_text(EMPTY), "grid 1 1\n.\n")
        self.assertEqual(level_text(((1, 3, "#^~"), (("a", "b", 0, -1, (("c", 0),)),), ())), "grid 1 3\n#\n^\n~\nthing a b 0 -1 c=0\n")
        self.assertEqual(level_text(((1, 1, "."), (), (("a", "b c  d=1"),))), "grid 1 1\n.\nnote a b c  d=1\n")

    def test_there_and_back(self):
        cases = Cases(131)
        for level in [LEVEL, EMPTY, FULL] + [some_level(cases) for _ in range(200)]:
            text = check_pure(self, level_text, level)
            self.assertEqual(check_pure(self, read_level, text), level)
            self.assertEqual(slow_read(text), level)
            self.assertLess(len(text), 8000)

    def test_different_levels_have_different_texts(self):
        cases = Cases(132)
        levels = {some_level(cases, 2) for _ in range(400)}
        self.assertEqual(len({level_text(level) for level in levels}), len(levels))

    def test_arguments(self):
        check_arguments(self, level_text, (LEVEL,), (("level", NO_LEVELS),))
        texts = (None, True, 5, b"grid 1 1\n.\n", [TEXT], (TEXT,), {}, 1.5, "x" * 8001, TEXT + "#" * 8000, "\n" * 8001)
        check_arguments(self, read_level, (TEXT,), (("text", texts),))


class ReadingTests(unittest.TestCase):
    def check_problem(self, text, line, words):
        with self.assertRaises(BadScript) as caught:
            read_level(text)
        found = caught.exception
        self.assertEqual((found.line, found.column, found.words), (line, 1, words), text)

    def check_line(self, words, *lines, before=GRID, behind="\n"):
        """Test that each line is the first one with a problem."""
        for line in lines:
            self.check_problem(before + line + "\n", before.count("\n") + 1, words)
            self.check_problem(before + line + "\nrest\n" + behind, before.count("\n") + 1, words)

    def test_end(self):
        for text in ("", "x", "grid 3 2", "grid 3 2 ", " "):
            self.check_problem(text, 1, "end")
        self.check_problem(TEXT[:-1], 7, "end")
        self.check_problem(TEXT + "x", 8, "end")
        self.check_problem(TEXT + " ", 8, "end")
        # It comes before all other problems.
        self.check_problem("x\ny\n\nz", 4, "end")
        self.check_problem("grid 3 2\n...", 2, "end")
        self.check_problem("x" * 8000, 1, "end")
        self.check_problem("\n" * 7999 + "x", 8000, "end")

    def test_grid(self):
        self.check_line("grid", "", " ", "grid", "grid ", "grid 3", "grid 3 ", "grid  3 2", "grid 3  2", "grid 3 2 ", " grid 3 2", "grid 3 2 1",
                        "Grid 3 2", "grids 3 2", "grid 0 2", "grid 3 0", "grid 41 2", "grid 3 41", "grid -3 2", "grid 03 2", "grid 3 02",
                        "grid +3 2", "grid 3 +2", "grid 3.0 2", "grid three 2", "grid 3,2", "grid\t3 2", "grid 3\t2", "grid 3 2\r", "grid 1_0 2",
                        "grid \u0663 2", "grid 3 \u00b2", "grid " + "3" * 5000 + " 2", "grid 3 " + "0" * 5000 + "2", "grid -0 2", "grid 000 2",
                        "...", "note a b", "thing a b 0 0", before="", behind="...\n###\n")
        self.check_problem("\n", 1, "grid")
        self.check_problem("\n" * 8000, 1, "grid")
        self.assertEqual(read_level("grid 40 1\n" + "." * 40 + "\n")[0], (40, 1, "." * 40))
        self.assertEqual(read_level("grid 1 40\n" + ".\n" * 40)[0], (1, 40, "." * 40))

    def test_rows(self):
        for before in ("grid 3 2\n", "grid 3 2\n...\n", "grid 3 9\n" + "#^~\n" * 8):
            self.check_line("row", "", "..", "....", "..x", ".. ", " ..", "...\r", "..\t", "note a b", "thing a b 0 0", "...#", "#" * 40,
                            before=before, behind="...\n")
            self.check_problem(before, before.count("\n") + 1, "row")
        self.check_problem("grid 1 40\n" + ".\n" * 39, 41, "row")
        self.assertEqual(read_level("grid 2 2\n#^\n~.\n"), ((2, 2, "#^~."), (), ()))

    def test_lines(self):
        for before in (GRID, GRID + "thing a b 0 0\n", GRID + "note a b\n"):
            self.check_line("line", "", " ", "...", "###", "grid 3 2", "thing", "note", "things a b 0 0", "notes a b", " thing a b 0 0", " note a b",
                            "Thing a b 0 0", "thing\ta b 0 0", "note\ta b", "#", "rest", "\r", before=before)

    def test_things(self):
        wrong = ["thing ", "thing a", "thing a b", "thing a b 0", "thing a b 0 ", "thing a b  0 0", "thing  a b 0 0", "thing a  b 0 0", "thing a b 0 0 ",
                 "thing a b 0 0  c=1", "thing a b 0 0 c=1 ", "thing A b 0 0", "thing a B 0 0", "thing 1 b 0 0", "thing a 1 0 0",
                 "thing a23456789a123 b 0 0", "thing a_ b 0 0", "thing a b 0 0 c", "thing a b 0 0 c=", "thing a b 0 0 =1", "thing a b 0 0 c==1",
                 "thing a b 0 0 c=1=1", "thing a b 0 0 C=1", "thing a b 0 0 c =1", "thing a b 0 0 c= 1", "thing a b 0 0 c=1 c=1",
                 "thing a b 0 0 d=1 c=1", "thing a b 0 0 c=1001", "thing a b 0 0 c=-1001", "thing a b 20001 0", "thing a b 0 -20001",
                 "thing a b 0 0 a=1 b=1 c=1 d=1 e=1 f=1 g=1", "thing a b 0\t0", "thing a b 0 0\r", "thing a b 0 0 c=1\t", "thing a b c=1 0 0",
                 "thing a b 0 0 0", "thing a b 0 0 c:1", "thing \u00e4 b 0 0", "thing a b " + "9" * 5000 + " 0", "thing a b 0 0 c=" + "1" * 5000]
        for number in ("00", "01", "-0", "-01", "+1", "--1", "-", "", "1.0", "1e2", "1_0", "\u0661", "\u00b2", "0x1", " 1", "1,", "n", "None"):
            wrong += [f"thing a b {number} 0", f"thing a b 0 {number}", f"thing a b 0 0 c={number}"]
        for before in (GRID, GRID + "thing a b 0 0\n", GRID + "note z z\n"):
            self.check_line("thing", *wrong, before=before)
        right = {"thing a b 0 0": ("a", "b", 0, 0, ()), "thing a23456789012 z 20000 -20000": ("a23456789012", "z", 20000, -20000, ()),
                 "thing thing note -1 10 grid=-1000 size=1000": ("thing", "note", -1, 10, (("grid", -1000), ("size", 1000))),
                 "thing a b 100 -100 a=0 b=1 c=2 d=3 e=4 f=-5": ("a", "b", 100, -100, tuple(zip("abcdef", (0, 1, 2, 3, 4, -5))))}
        for line, thing in right.items():
            self.assertEqual(read_level(GRID + line + "\n"), (LEVEL[0], (thing,), ()))

    def test_notes(self):
        for before in (GRID, GRID + "note a b\n", GRID + "thing z z 0 0\n"):
            self.check_line("note", "note ", "note a", "note a ", "note  a", "note a  b", "note a b ", "note A b", "note 1 b", "note a_ b",
                            "note a23456789a123 b", "note a " + "x" * 41, "note a b\t", "note a \tb", "note a b\r", "note a \u00e4", "note a \u007f",
                            "note  b", before=before)
        right = {"note a b": ("a", "b"), "note a23456789012 " + "x" * 40: ("a23456789012", "x" * 40), "note note note": ("note", "note"),
                 "note a b  c = d": ("a", "b  c = d"), "note a thing b c 0 0": ("a", "thing b c 0 0"), "note a \"\\~!": ("a", "\"\\~!")}
        for line, note in right.items():
            self.assertEqual(read_level(GRID + line + "\n"), (LEVEL[0], (), (note,)))

    def test_a_thing_behind_a_note(self):
        for before in (GRID + "note a b\n", GRID + "thing m m 0 0\nnote a b\nnote c d\n"):
            self.check_line("line", "thing z b 0 0", "thing m m 0 0", "thing a b 0 0 c=1", before=before)
            self.check_line("thing", "thing z b 0", before=before)

    def test_order(self):
        self.check_line("order", "thing m b 0 0", "thing a b 0 0", "thing l99 b 0 0", before=GRID + "thing m b 0 0\n")
        self.check_line("thing", "thing m b 0", "thing a b", before=GRID + "thing m b 0 0\n")
        self.check_line("order", "note m b", "note a b", "note l99 m", before=GRID + "note m b\n")
        self.check_line("note", "note m ", "note a", before=GRID + "note m b\n")
        self.assertEqual(len(read_level(GRID + "thing m b 0 0\nthing m0 b 0 0\nthing ma b 0 0\nnote m b\nnote m0 b\n")[1]), 3)
        # Names of things and keys of notes have nothing to do with each other.
        self.assertEqual(read_level(GRID + "thing m b 0 0\nnote a b\n")[2], (("a", "b"),))

    def test_many(self):
        things = "".join(f"thing a{index:02} b 0 0\n" for index in range(20))
        notes = "".join(f"note a{index} b\n" for index in range(8))
        level = read_level(GRID + things + notes)
        self.assertEqual((len(level[1]), len(level[2])), (20, 8))
        self.check_line("many", "thing b b 0 0", before=GRID + things)
        self.check_line("order", "thing a b 0 0", "thing a19 b 0 0", before=GRID + things)
        self.check_line("thing", "thing b b 0", before=GRID + things)
        self.check_line("line", "thing b b 0 0", "thing a b 0 0", before=GRID + things + notes)
        self.check_line("many", "note b b", before=GRID + things + notes)
        self.check_line("order", "note a b", "note a7 b", before=GRID + notes)
        self.check_line("note", "note b ", before=GRID + notes)

    def test_the_first_wrong_line(self):
        lines = TEXT.split("\n")[:-1]
        for index, words in enumerate(("grid", "row", "row", "thing", "thing", "note", "note")):
            broken = list(lines)
            for later in range(index, 7):
                broken[later] = broken[later].split(" ")[0] + " "
            self.check_problem("\n".join(broken) + "\n", index + 1, words)

    def test_broken_texts(self):
        cases = Cases(133)
        found = {}
        for _ in range(3000):
            text = level_text(cases.one((LEVEL, some_level(cases, 3), ((1, 1, "."), (HERO, MOB), LEVEL[2]))))
            for _ in range(cases.whole(1, 2)):
                text = broken_text(cases, text)
            expected = slow_read(text)
            try:
                level = read_level(text)
                self.assertEqual(level, expected, text)
                self.assertTrue(is_level(level))
                self.assertEqual(level_text(level), text)
                found["level"] = True
            except BadScript as problem:
                self.assertEqual((problem.line, problem.words, problem.column), (*expected, 1), text)
                found[problem.words] = True
        self.assertEqual(len(found), 8, found)


def broken_text(cases, text):
    """Change a text at one place."""
    lines = text.split("\n")
    index, place = cases.whole(0, len(lines) - 1), cases.whole(0, len(text))
    kind = cases.whole(0, 5)
    if kind == 0:
        lines.insert(index, cases.one(lines))
    elif kind == 1:
        del lines[index]
    elif kind == 2:
        other = cases.whole(0, len(lines) - 1)
        lines[index], lines[other] = lines[other], lines[index]
    elif kind == 3:
        return text[:place] + cases.one(" \n=-01a.#~") + text[place:]
    elif kind == 4:
        return text[:place] + text[place + 1:]
    else:
        words = lines[index].split(" ")
        words[cases.whole(0, len(words) - 1)] = cases.one(("0", "00", "-0", "a", "z9", "", "thing", "note", "hp=1", "99999", "-20000"))
        lines[index] = " ".join(words)
    return "\n".join(lines)


class BoundTests(unittest.TestCase):
    def test_the_longest_text(self):
        text = "grid 1 1\n.\n"
        with self.assertRaises(BadScript):
            read_level(text + "#" * (7999 - len(text)) + "\n")
        with self.assertRaises(BadValue):
            read_level(text + "#" * (8000 - len(text)) + "\n")


if __name__ == "__main__":
    unittest.main()
