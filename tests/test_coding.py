"""Points 59 to 61, 65, 66 and 68 to 70: codes of scripts, sound codes and short ones."""

import unittest

from alikeplay.checking import read_script
from alikeplay.coding import coded, commands_of_code, heights, is_code, short
from alikeplay.errors import TooLarge
from codes import CODE, INNER, LAST, MAIN, of_body, slow_code, slow_heights, slow_short, some_codes
from helpers import NO_INTEGERS, NO_TUPLES, Cases, check_arguments, check_pure
from scripts import BINARY, COMMANDS, part_at, parts, replaced, some_trees
from test_checking import NO_COMMANDS
from test_writing import NO_TREES

X = [("x", 1)]
END = ("end",)
TREES = some_trees(150, 51)


def code_of(text, commands=()):
    return coded(read_script(text, list(commands)))


def body_of(text, commands=COMMANDS):
    """Return the instructions of the body, its end left out."""
    rows = code_of(text, commands)[1][0][2]
    assert rows[-1] == END
    return rows[:-1]


def wrong_codes():
    """Return values that are no sound code for any commands, each nearly one."""
    rows = (("int", 1), ("drop",), END)
    found = [*NO_TUPLES, (), (1,), [*CODE], (1, [*CODE[1]]), (*CODE, 1), (13, CODE[1]), (-1, CODE[1]), (True, CODE[1]),
             (1, ()), (1, ((0, 0, ()),)), (1, ((0, 0, [*MAIN]), (0, 2, INNER))), (1, ([0, 0, MAIN], (0, 2, INNER))),
             (1, ((0, 0, rows),) + ((0, 0, INNER[:0] + (("int", 0), ("return",))),) * 9),
             (1, ((0, 0),)), (1, ((0, 0, rows, ()),)), (0, ((0, 1, rows),)), (0, ((1, 1, rows),)),
             (0, ((False, 0, rows),)), (1, CODE[1][:1]), (0, CODE[1]), of_body(*[END] * 1001)]
    for heads in ((0, 1), (3, 2), (5, 5), (0, 9), (-1, 2), (True, 2), (0, True), (None, 2), (2,)):
        found.append((1, ((0, 0, MAIN), (*heads, INNER))))
        if heads != (0, 1):
            found.append((1, ((0, 0, (END,)), (*heads, (("int", 0), ("return",))))))
    found += [(count, ((0, 0, (END,)),)) for count in (-1, 13, *NO_INTEGERS)]
    for row in (
        (), "end", ["end"], None, ("int",), ("int", 1, 1), ("int", LAST + 1), ("int", -LAST - 2), ("int", True),
        ("int", None), ("get", 1), ("get", -1), ("get", False), ("put", 1), ("load", 0), ("store", 0), ("jump", -1),
        ("jump", 3), ("unless", 3), ("and", 3), ("or", 3), ("jump", True), ("jump",), ("call", 0), ("call", 1), ("wait", 1),
        ("end", 0), ("plus", 1), ("nop",), (1,), (None,), ([],), ("ask",), ("ask", "x"), ("ask", "x", 5), ("ask", "x", -1),
        ("ask", "x", True), ("ask", "X", 0), ("ask", "do", 0), ("ask", "x" * 13, 0), ("ask", None, 0), ("ask", ["x"], 0),
        ("ask", "x", 0, 0), ("halt", 0), ("ask", "x", None),
    ):
        found.append(of_body(END, row, END))
    for some in (
        # No place to go on at, too little or too much on the stack, two heights at one place.
        [("int", 1)], [("wait",)], [("int", 1), ("drop",)], [("drop",), END], [("int", 1), END], [("neg",), ("drop",), END],
        [("int", 1), ("plus",), ("drop",), END], [("put", 0), END], [("unless", 0), END], [("and", 0), END],
        [("get", 0), ("unless", 3), ("int", 1), END], [("get", 0), ("and", 3), ("wait",), END],
        [("get", 0), ("or", 2), END], [("int", 1), ("jump", 0), END], [("ask", "x", 1), ("drop",), END],
        [("int", 1), ("return",)], [("int", 0), ("unless", 0)], [("int", 1)] * 301 + [("drop",)] * 301 + [END],
        [("ask", "x", 0), ("ask", "x", 1), ("drop",), END], [("return",)],
        [("int", 1), ("ask", "x", 0), ("eq",), END], [("jump", 2), ("return",), ("int", 1), ("jump", 1)],
    ):
        found.append(of_body(*some))
    for some in ([END], [("int", 0), ("int", 0), ("return",)], [("return",)], [("int", 0)], [("load", 2), ("return",)],
                 [("store", 1), ("int", 0), ("return",)], [("call", 2), ("return",)], [("load", 0), ("call", 1)]):
        found.append((1, ((0, 0, (("int", 1), ("int", 2), ("call", 1), ("put", 0), END)), (2, 2, tuple(some)))))
    found.append((0, ((0, 0, (("int", 1), ("call", 1), ("drop",), END)), (2, 2, (("int", 0), ("return",))))))
    found.append(of_body(*[("ask", f"c{k}", 0) for k in range(41)], *[("drop",)] * 41, END))
    return found


class CodeTests(unittest.TestCase):
    def test_document(self):
        code = code_of("var n; while n < 2 { n = n + @roll(6); wait; }", [("roll", 1)])
        self.assertEqual(code, (1, ((0, 0, (
            ("get", 0), ("int", 2), ("lt",), ("unless", 11), ("get", 0), ("int", 6), ("ask", "roll", 1), ("plus",),
            ("put", 0), ("wait",), ("jump", 0), ("end",))),)))
        self.assertEqual(heights(code), [[0, 1, 2, 1, 0, 1, 2, 2, 1, 0, 0, 0]])

    def test_expressions(self):
        for text, rows in (
            ("7", [("int", 7)]), ("b", [("get", 1)]), ("-b", [("get", 1), ("neg",)]), ("not 1", [("int", 1), ("not",)]),
            ("a - 1", [("get", 0), ("int", 1), ("minus",)]),
            ("a and b", [("get", 0), ("and", 4), ("get", 1), ("truth",)]),
            ("a or b", [("get", 0), ("or", 4), ("get", 1), ("truth",)]),
            ("1 or 2 or 3", [("int", 1), ("or", 4), ("int", 2), ("truth",), ("or", 7), ("int", 3), ("truth",)]),
            ("1 and (2 or 3)", [("int", 1), ("and", 7), ("int", 2), ("or", 6), ("int", 3), ("truth",), ("truth",)]),
            ("@me()", [("ask", "me", 0)]), ("@near(b, 3)", [("get", 1), ("int", 3), ("ask", "near", 2)]),
        ):
            self.assertEqual(body_of(f"var a; var b; do {text};"), (*rows, ("drop",)), text)
        signs = ("+", "-", "*", "div", "mod", "==", "!=", "<", "<=", ">", ">=")
        for word, sign in zip(BINARY, signs):
            self.assertEqual(body_of(f"do 1 {sign} 2;"), (("int", 1), ("int", 2), (word,), ("drop",)))

    def test_statements(self):
        for text, rows in (
            ("a = 1;", [("int", 1), ("put", 0)]), ("do 1;", [("int", 1), ("drop",)]), ("wait;", [("wait",)]),
            ("if 1 { wait; }", [("int", 1), ("unless", 3), ("wait",)]), ("if 1 { }", [("int", 1), ("unless", 2)]),
            ("if 1 { wait; } else { }", [("int", 1), ("unless", 3), ("wait",)]),
            ("if 1 { wait; } else { wait; wait; }", [
                ("int", 1), ("unless", 4), ("wait",), ("jump", 6), ("wait",), ("wait",)]),
            ("if 1 { } else { wait; }", [("int", 1), ("unless", 3), ("jump", 4), ("wait",)]),
            ("wait; while 1 { wait; }", [("wait",), ("int", 1), ("unless", 5), ("wait",), ("jump", 1)]),
            ("while 1 { }", [("int", 1), ("unless", 3), ("jump", 0)]),
            ("", []),
        ):
            self.assertEqual(body_of("var a; " + text), tuple(rows), text)

    def test_functions(self):
        code = code_of("var a; var p; func f(p, q) { var r; r = p; a = q; return f(r, g()); } func g() { p = 1; }"
                       "a = p; do f(g(), 2);")
        self.assertEqual(code, (2, (
            (0, 0, (("get", 1), ("put", 0), ("call", 2), ("int", 2), ("call", 1), ("drop",), ("end",))),
            (2, 3, (("load", 0), ("store", 2), ("load", 1), ("put", 0), ("load", 2), ("call", 2), ("call", 1), ("return",),
                    ("int", 0), ("return",))),
            (0, 0, (("int", 1), ("put", 1), ("int", 0), ("return",))),
        )))

    def test_word_by_word(self):
        for tree in TREES:
            self.assertEqual(coded(tree), slow_code(tree))

    def test_codes_of_trees_are_sound(self):
        for tree in TREES:
            code = coded(tree)
            self.assertIs(is_code(code, COMMANDS), True)
            self.assertEqual(heights(code), slow_heights(code))

    def test_size(self):
        """999 instructions and the end are let, one more is not."""
        wait = ("wait",)
        self.assertEqual(len(coded(((), (), (wait,) * 999))[1][0][2]), 1000)
        self.assertEqual(len(coded(((), (("f", (), (), (wait,) * 500),), (wait,) * 497))[1][0][2]), 498)
        for tree in (((), (), (wait,) * 1000), ((), (("f", (), (), (wait,) * 500),), (wait,) * 498)):
            with self.assertRaises(TooLarge) as caught:
                coded(tree)
            self.assertEqual(caught.exception.what, "code")

    def test_errors(self):
        check_pure(self, coded, TREES[0])
        check_arguments(self, coded, (((), (), ()),), (("tree", NO_TREES),))


class SoundTests(unittest.TestCase):
    def test_wrong_codes(self):
        self.assertIs(is_code(CODE, X), True)
        for value in wrong_codes():
            for commands in ([], X, [("x", 0)], [(f"c{k}", 0) for k in range(40)]):
                self.assertIs(is_code(value, commands), False, value)

    def test_no_part_can_be_of_another_kind(self):
        for path in parts(CODE):
            part = part_at(CODE, path)
            others = [None, True, 1.5, {}, [], "", "odd", -1, LAST + 1, (), ("end", "end")]
            if isinstance(part, tuple):
                others += [list(part), (*part, part)]
            for other in others:
                self.assertIs(is_code(replaced(CODE, path, other), X), False, (path, other))

    def test_commands(self):
        self.assertIs(is_code(CODE, []), False)
        self.assertIs(is_code(CODE, [("x", 0)]), False)
        self.assertIs(is_code(CODE, [("y", 1)]), False)
        self.assertIs(is_code(CODE, [("y", 1), ("x", 1)]), True)
        unreached = of_body(END, ("ask", "x", 1))
        self.assertIs(is_code(unreached, X), True)
        self.assertIs(is_code(unreached, []), False)

    def test_bounds(self):
        self.assertIs(is_code((12, ((0, 0, (("get", 11), ("put", 0), END)),)), []), True)
        self.assertIs(is_code(of_body(("int", LAST), ("int", -LAST - 1), ("plus",), ("drop",), END), []), True)
        self.assertIs(is_code(of_body(*[("wait",)] * 999, END), []), True)
        self.assertIs(is_code(of_body(*[("int", 1)] * 300, *[("drop",)] * 300, END), []), True)
        function = (4, 8, (("load", 7), ("store", 0), ("int", 0), ("return",)))
        call = (("int", 1),) * 4 + (("call", 8), ("drop",), END)
        self.assertIs(is_code((0, ((0, 0, call),) + (function,) * 8), []), True)
        self.assertIs(is_code((0, ((0, 0, call),) + (function,) * 9), []), False)

    def test_places_that_are_not_reached(self):
        rows = (("jump", 5), ("drop",), ("return",), ("plus",), ("jump", 0), END, ("int", 1))
        self.assertIs(is_code(of_body(*rows), []), True)
        self.assertEqual(heights(of_body(*rows)), [[0, None, None, None, None, 0, None]])
        self.assertEqual(heights((1, ((0, 0, (END,)), (2, 2, (("jump", 0),))))), [[0], [0]])

    def test_heights(self):
        self.assertEqual(heights(CODE), [[0, 1, 0, 1, 0], [0, 1, 1]])
        rows = (("get", 0), ("and", 4), ("get", 0), ("truth",), ("or", 7), ("int", 3), ("truth",), ("put", 0), END)
        self.assertEqual(heights(of_body(*rows)), [[0, 1, 0, 1, 1, 0, 1, 1, 0]])
        three = (3, 3, (("int", 1), ("return",)))
        rows = (("int", 1),) * 4 + (("call", 1), ("ask", "x", 2), ("drop",), END)
        self.assertEqual(heights((0, ((0, 0, rows), three))), [[0, 1, 2, 3, 4, 2, 1, 0], [0, 1]])

    def test_word_by_word(self):
        """Codes and changed codes are sound exactly if another way to judge them says so."""
        cases = Cases(52)
        counts = [0, 0]
        for code in some_codes(150, cases):
            for _ in range(20):
                index = cases.whole(0, 1)
                rows = code[1][index][2]
                place = cases.whole(0, len(rows) - 1)
                row = cases.one(rows + (("int", 1), ("drop",), ("jump", place), END, ("return",), ("unless", place)))
                if len(row) == 2 and isinstance(row[1], int) and row[1] >= len(rows):
                    continue
                changed = replaced(code, (1, index, 2, place), row)
                found = slow_heights(changed)
                self.assertIs(is_code(changed, [("x", 0)]), found is not None, changed)
                counts[found is None] += 1
                if found is not None:
                    self.assertEqual(check_pure(self, heights, changed), found)
        self.assertGreater(min(counts), 300)

    def test_commands_of_code(self):
        rows = (END, ("ask", "y", 3), ("ask", "a", 4), ("ask", "y", 3), ("ask", "b2", 0), ("ask", "b", 1))
        self.assertEqual(check_pure(self, commands_of_code, of_body(*rows)), [("a", 4), ("b", 1), ("b2", 0), ("y", 3)])
        self.assertEqual(commands_of_code(CODE), X)
        self.assertEqual(commands_of_code(of_body(END)), [])
        self.assertEqual(len(commands_of_code(of_body(END, *[("ask", f"c{k}", 0) for k in range(40)]))), 40)
        self.assertEqual(commands_of_code((0, ((0, 0, (END, ("ask", "y", 1))), (0, 0, (("ask", "x", 0), ("return",)))))),
                         [("x", 0), ("y", 1)])

    def test_errors(self):
        wrong = wrong_codes()
        check_arguments(self, heights, (CODE,), (("code", wrong),))
        check_arguments(self, commands_of_code, (CODE,), (("code", wrong),))
        check_arguments(self, short, (CODE,), (("code", wrong),))
        for value in (CODE, None, 5):
            check_arguments(self, lambda commands: is_code(value, commands), (X,), (("commands", NO_COMMANDS),))


class ShortTests(unittest.TestCase):
    def check(self, rows, wanted):
        self.assertEqual(short(of_body(*rows)), of_body(*wanted))
        self.assertEqual(slow_short(of_body(*rows)), of_body(*wanted))

    def test_jumps_to_jumps(self):
        get = ("get", 0)
        self.check([get, ("unless", 4), ("wait",), END, ("jump", 5), ("jump", 6), ("wait",), END],
                   [get, ("unless", 4), ("wait",), END, ("wait",), END])
        self.check([get, ("and", 4), get, ("jump", 4), ("put", 0), END], [get, ("and", 3), get, ("put", 0), END])

    def test_jumps_round(self):
        self.check([("jump", 0)], [("jump", 0)])
        self.check([("jump", 1), ("jump", 0)], [("jump", 0)])
        self.check([("jump", 2), ("wait",), ("jump", 0)], [("jump", 0)])
        self.check([("wait",), ("jump", 3), ("jump", 1), ("jump", 2)], [("wait",), ("jump", 3), ("jump", 1), ("jump", 2)])
        self.check([("wait",), ("jump", 2), ("jump", 3), ("jump", 1)], [("wait",), ("jump", 1)])
        self.check([("get", 0), ("unless", 4), ("jump", 4), END, ("jump", 5), ("jump", 4)],
                   [("get", 0), ("unless", 2), ("jump", 2)])

    def test_places_that_are_not_reached(self):
        self.check([END, ("wait",), ("jump", 1)], [END])
        self.check([("jump", 2), ("drop",), END, ("jump", 1)], [END])

    def test_a_jump_to_the_next_place(self):
        self.check([("jump", 1), END], [END])
        self.check([("jump", 1), ("jump", 2), ("jump", 3), END], [END])
        self.check([("wait",), ("jump", 2), ("jump", 0)], [("wait",), ("jump", 0)])
        self.check([("get", 0), ("unless", 2), END], [("get", 0), ("unless", 2), END])

    def test_what_is_short_stays(self):
        for code in (CODE, of_body(END)):
            self.assertEqual(short(code), code)

    def test_word_by_word(self):
        cases = Cases(53)
        shorter = 0
        for code in some_codes(2500, cases):
            found = short(code)
            self.assertEqual(found, slow_short(code), code)
            self.assertIs(is_code(found, [("x", 0)]), True)
            self.assertEqual(short(found), found)
            shorter += found != code
        self.assertGreater(shorter, 1000)

    def test_codes_of_trees(self):
        for tree in TREES[:60]:
            self.assertEqual(check_pure(self, short, coded(tree)), slow_short(coded(tree)))

    def test_longest(self):
        rows = [("jump", 997 - k if k < 499 else 998 - k) for k in range(998)] + [("wait",), END]
        rows[499] = ("jump", 998)
        self.assertEqual(short(of_body(*rows)), of_body(("wait",), END))
        rows = [("wait",)] + [("jump", k) for k in range(2, 999)] + [("jump", 1)]
        self.assertEqual(short(of_body(*rows)), of_body(("wait",), ("jump", 1)))


class BadNumberTests(unittest.TestCase):
    def test_integers(self):
        for value in NO_INTEGERS:
            for code in (of_body(("int", value), ("drop",), END), (value, ((0, 0, (END,)),)), of_body(("jump", value), END)):
                self.assertIs(is_code(code, []), False)


if __name__ == "__main__":
    unittest.main()
