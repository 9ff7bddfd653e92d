"""Points 47 to 54, 57 and 58: what can come, problems of texts, and trees."""

import unittest

from alikeplay.checking import is_tree, next_tokens, read_script
from alikeplay.errors import BadScript, BadValue
from alikeplay.scanning import scan
from alikeplay.writing import script_text
from helpers import NO_INTEGERS, NO_TUPLES, Cases, check_arguments, check_pure
from scripts import (
    BINARY, COMMANDS, RESERVED, WORDS, coming, expression_text, part_at, parts, plain_text, replaced, some_tree,
    some_trees, written,
)
from test_scanning import NO_TEXTS

A = ("name", "a")
ONE = ("int", 1)
NO_COMMANDS = (
    None, True, 0, "", "ab", (), (("a", 1),), {}, [1], ["a1"], [None], [["a", 1]], [("a",)], [("a", 1, 1)], [()],
    [("A", 1)], [("", 1)], [("a" * 13, 1)], [("1a", 1)], [(1, 1)], [(None, 1)], [(("a",), 1)], [([], 1)],
    *[[(word, 1)] for word in RESERVED], *[[("a", count)] for count in (-1, 5, *NO_INTEGERS)],
    [("a", 1), ("a", 1)], [("a", 1), ("b", 2), ("a", 0)], [(f"c{k}", 0) for k in range(41)],
)


def problem_of(text, commands=COMMANDS):
    """Return the place and the words of the problem of a text, or None."""
    try:
        read_script(text, commands)
    except BadScript as problem:
        return problem.line, problem.column, problem.words
    return None


def expected(words):
    """Write what can come as point 49 says."""
    return "expected " + (" or ".join(words) if len(words) < 3 else ", ".join(words[:-1]) + " or " + words[-1])


def body(*statements):
    """Return a tree with a variable and these statements."""
    return ("a",), (), statements


def value_tree(expression):
    return body(("do", expression))


def rows(word, many, tree=A):
    """Return operations that stand in each other as first operands."""
    for _ in range(many):
        tree = (word, tree) if word in ("neg", "not") else (word, tree, A)
    return tree


class DocumentTests(unittest.TestCase):
    def test_document(self):
        text = "var n; func twice(k) { return 2*k; } while n<9 { n = n+twice(1); do @say(n); wait; }"
        tree = read_script(text, [("say", 1)])
        self.assertEqual(tree[1], (
            ("twice", ("k",), (), (("return", ("times", ("int", 2), ("name", "k"))),)),))
        self.assertEqual(script_text(tree), "var n;\nfunc twice(k) {\n  return 2 * k;\n}\n"
                         "while n < 9 {\n  n = n + twice(1);\n  do @say(n);\n  wait;\n}\n")
        self.assertEqual(next_tokens("if n"), [
            "or", "and", "div", "mod", '"{"', '"("', '"=="', '"!="', '"<"', '"<="', '">"', '">="', '"+"', '"-"', '"*"'])
        self.assertEqual(problem_of("var x; x = @hit(x);", [("hit", 0)]), (1, 13, "wrong number of arguments"))


class GrammarTests(unittest.TestCase):
    def test_word_by_word(self):
        """Go at random through the grammar, as another reader of its text tells it."""
        cases = Cases(32)
        seen = {}
        for _ in range(250):
            words, tokens = [], []
            stacks = [("SCRIPT",)]
            for _ in range(cases.whole(1, 45)):
                behind = coming(stacks)
                found = [word for word in WORDS if word in behind]
                self.assertEqual(next_tokens(" ".join(tokens)), found, tokens)
                self.check_wrong_word(words, tokens, found, cases)
                word = self.pick(found, seen, cases)
                seen[word] = seen.get(word, 0) + 1
                if word == "the end" or (word in ('"{"', '"("') and deep(tokens) == 10):
                    break
                words.append(word)
                tokens.append(written(word, cases))
                stacks = behind[word]
        self.assertLessEqual(set(WORDS[:-1]), set(seen))

    def pick(self, found, seen, cases):
        """Do not end soon, and come to rare words."""
        if len(found) > 1 and found[-1] == "the end":
            found = found[:-1] if cases.whole(0, 60) else found
        if cases.whole(0, 1):
            return min(found, key=lambda word: seen.get(word, 0) if word != "the end" else 9999)
        return cases.one(found)

    def check_wrong_word(self, words, tokens, found, cases):
        others = [word for word in WORDS[:-1] if word not in found]
        if not others:
            return
        bad = written(cases.one(others), cases)
        text = "\n".join([*tokens, bad])
        if bad in "({" and deep(tokens) == 10:
            return
        told = (len(tokens) + 1, 1, expected(found))
        self.assertEqual(problem_of(text + " 1 if }"), told, text)
        with self.assertRaises(BadScript) as caught:
            next_tokens(text)
        self.assertEqual((caught.exception.line, caught.exception.column, caught.exception.words), told)

    def test_the_end_comes_too_soon(self):
        for text in ("var", "var x", "a", "a =", "a = 1", "if a {", "if a { } else", "func f(", "func f() {", "a = (1"):
            self.assertEqual(problem_of(text), (1, len(text) + 1, expected(next_tokens(text))), text)
        self.assertEqual(problem_of("a = 1; wait # more"), (1, 19, 'expected ";"'))
        self.assertEqual(problem_of("a"), (1, 2, 'expected "="'))
        self.assertEqual(problem_of("var a; func f(a"), (1, 16, 'expected ")" or ","'))

    def test_next_tokens_at_places(self):
        statements = ["a name", "if", "while", "wait", "return", "do"]
        self.assertEqual(next_tokens(""), ["a name", "var", "func", *statements[1:], "the end"])
        self.assertEqual(next_tokens("var x;"), next_tokens(""))
        self.assertEqual(next_tokens("func f() {"), ["a name", "var", *statements[1:], '"}"'])
        self.assertEqual(next_tokens("func f() { var a;"), ["a name", "var", *statements[1:], '"}"'])
        self.assertEqual(next_tokens("func f() { wait;"), [*statements, '"}"'])
        self.assertEqual(next_tokens("func f() { }"), ["a name", "func", *statements[1:], "the end"])
        self.assertEqual(next_tokens("wait;"), [*statements, "the end"])
        self.assertEqual(next_tokens("if a { }"), ["a name", "if", "else", *statements[2:], "the end"])
        self.assertEqual(next_tokens("if a { } else { }"), [*statements, "the end"])
        self.assertEqual(next_tokens("a = -not -not"), ["a name", "a number", '"("', '"@"'])
        self.assertEqual(next_tokens("a = -not -"), ["a name", "a number", "not", '"("', '"@"', '"-"'])
        self.assertEqual(next_tokens("a = @"), ["a name"])
        self.assertEqual(next_tokens("a = @b"), ['"("'])
        self.assertEqual(next_tokens("a = f("), ["a name", "a number", "not", '"("', '")"', '"@"', '"-"'])
        self.assertEqual(next_tokens("a = f(1,"), ["a name", "a number", "not", '"("', '"@"', '"-"'])
        self.assertEqual(next_tokens("func f("), ["a name", '")"'])
        self.assertEqual(next_tokens("func f(a,"), ["a name"])

    def test_repetitions(self):
        """Each repetition is made four times, anew in each part; parentheses begin anew."""
        tails = {"or": "or", "and": "and", "+": '"+"', "-": '"-"', "*": '"*"', "div": "div", "mod": "mod"}
        for sign, word in tails.items():
            for many in range(5):
                text = "do 1" + f" {sign} 1" * many
                self.assertEqual(word in next_tokens(text), many < 4, text)
                self.assertIn(word, next_tokens(text + " or 1" if sign != "or" else "do (" + text[3:] + ") or (1"))
            self.assertEqual(problem_of("do 1" + f" {sign} 1" * 5 + ";")[:2], (1, 6 + 4 * (len(sign) + 3)))
        self.assertIn('"+"', next_tokens("do 1+1+1+1+1 < 1"))
        self.assertNotIn('"+"', next_tokens("do 1+1+1+1*1*1-1"))
        self.assertIn('"*"', next_tokens("do 1*1*1*1*1+1"))
        self.assertNotIn('"=="', next_tokens("do 1 < 1"))
        self.assertIn('"=="', next_tokens("do 1 < 1 and 1"))

    def test_problems_of_tokens_come_first(self):
        self.assertEqual(problem_of("if if if 99999999999"), (1, 10, "a number is at most 2147483647"))
        self.assertEqual(problem_of("do b; do " + "(" * 11), (1, 20, "nested too deep"))
        with self.assertRaises(BadScript) as caught:
            next_tokens("} !")
        self.assertEqual(caught.exception.words, "no token begins here")

    def test_grammar_comes_before_names(self):
        self.assertEqual(problem_of("b = c; wait")[2], 'expected ";"')

    def test_errors(self):
        check_pure(self, next_tokens, "if n")
        check_arguments(self, next_tokens, ("",), (("text", NO_TEXTS),))
        check_arguments(self, read_script, ("# " + "x" * 3998, [(f"c{k}", k // 10) for k in range(40)]),
                        (("text", NO_TEXTS), ("commands", NO_COMMANDS)))
        for commands in NO_COMMANDS:
            with self.assertRaises(BadValue) as caught:
                read_script("!", commands)
            self.assertEqual(caught.exception.name, "commands")


def deep(tokens):
    return sum(token in "({" for token in tokens) - sum(token in ")}" for token in tokens)


class ProblemTests(unittest.TestCase):
    """Point 53: each problem at its token, and the first one of several."""

    def check(self, text, words, mark="!"):
        """Test that the problem stands where the mark is in the text."""
        before = text[:text.index(mark)]
        place = 1 + before.count("\n"), len(before) - before.rfind("\n")
        self.assertEqual(problem_of(text.replace(mark, "", 1)), (*place, words), text)

    def test_variables(self):
        twelve = "".join(f"var v{k};\n" for k in range(12))
        self.assertIsNone(problem_of(twelve))
        self.check(twelve + "var !v3; do u;", "a script has at most 12 variables")
        self.check(twelve + "var !new;", "a script has at most 12 variables")
        self.check("var a; var b; var !a;", "this name stands already")

    def test_functions(self):
        eight = "".join(f"func f{k}() {{ }}\n" for k in range(8))
        self.assertIsNone(problem_of(eight))
        self.check(eight + "func !f3(a, a) { }", "a script has at most 8 functions")
        self.check("var a; func b() { } func !a() { }", "this name stands already")
        self.check("func b(p) { } func !b() { }", "this name stands already")
        self.check("func b(x) { do @x(1); } func x() { } func !x() { }", "this name stands already")

    def test_slots(self):
        self.assertIsNone(problem_of("func f(a, b, c, d) { var e; var g; var h; var i; }"))
        self.assertIsNone(problem_of("func f() { var a; var b; var c; var d; var e; var g; var h; var i; }"))
        self.check("func f(a, b, c, d, !a) { }", "a function has at most 4 parameters")
        self.check("func f(a, b, c, d) { var e; var g; var h; var i; var !a; }", "a function has at most 8 variables")
        self.check("func f(p) { var a; var b; var c; var d; var e; var g; var h; var !i; }",
                   "a function has at most 8 variables")
        self.check("func f(a, b, !a) { }", "this name stands already")
        self.check("func f(a, b) { var c; var !b; }", "this name stands already")
        self.check("func f() { var c; var !c; }", "this name stands already")
        self.assertIsNone(problem_of("var a; func f(a, f, g) { var h; a = f + g + h; } func g() { } func h(f) { }"))

    def test_unknown_names(self):
        self.check("!a = 1;", "this name is unknown")
        self.check("var a; a = a + !b;", "this name is unknown")
        self.check("var a; func f(b) { a = b; } !b = 1;", "this name is unknown")
        self.check("func f(b) { b = 1; } func g() { !b = 1; }", "this name is unknown")
        self.check("func f() { } do !f;", "this name is unknown")
        self.check("func f() { } !f = 1;", "this name is unknown")
        self.check("do !x;", "this name is unknown")
        self.assertIsNone(problem_of("var a; func f() { a = 1; }"))

    def test_calls(self):
        self.check("var a; do !a();", "this function is unknown")
        self.check("func f(f) { do f(1); do !g(); }", "this function is unknown")
        self.assertIsNone(problem_of("func f(f) { do g() + f(f); } func g() { do f(1); }"))
        for arguments in ("", "1", "1, 2, 3", "f(1, 2)", "(1)", "1, 2, 3, 4, 5, 6"):
            self.check(f"func f(a, b) {{ }} do !f({arguments});", "wrong number of arguments")
        self.check("func f(a) { } do !f(u, @v());", "wrong number of arguments")
        self.check("func f(a) { } do f(!u);", "this name is unknown")
        self.check("func g() { do !f(1); } func f() { } func f(a) { }", "wrong number of arguments")
        self.check("func g() { do f(); } func f() { } func !f(a) { }", "this name stands already")
        self.check("func g() { do f(1, 2, 3, 4, 5); } func f(a, b, c, d, !e) { }",
                   "a function has at most 4 parameters")
        self.check("func g() { do !f(1, 2, 3, 4); } func f(a, b, c, d, e) { }", "wrong number of arguments")

    def test_commands(self):
        self.check("do @!y(u);", "this command is unknown")
        self.check("do @!x();", "wrong number of arguments")
        self.check("do @!x(1, u);", "wrong number of arguments")
        self.check("do @!me(u);", "wrong number of arguments")
        self.check("do @x(!u);", "this name is unknown")
        self.check("func x() { do x(); do @!x(); }", "wrong number of arguments")
        self.assertIsNone(problem_of("do @four(@me(), @x(1), (@near(1, 2)), -1);"))
        self.assertEqual(problem_of("do @me();", []), (1, 5, "this command is unknown"))

    def test_return(self):
        self.check("!return u;", "return stands outside of functions")
        self.check("func f() { return 1; } if 1 { while 2 { !return 1; } }", "return stands outside of functions")
        self.assertIsNone(problem_of("func f() { if 1 { while 2 { return 1; } } }"))

    def test_two_operands(self):
        for group in (("+", "-"), ("*", "div", "mod"), ("or",), ("and",)):
            for first in group:
                for last in group:
                    row = f" {first} ".join("12345")
                    self.assertIsNone(problem_of(f"do {row};"))
                    self.check(f"do ({row}) !{last} u;", "too many operands")
                    self.check(f"do (({row})) !{last} 1;", "too many operands")
                    self.assertIsNone(problem_of(f"do 1 {last} ({row});"))
                    self.assertIsNone(problem_of(f"do ({row}) < 1;"))
                    self.assertIsNone(problem_of(f"do (1 == ({row})) {last} 1;"))
                    self.check(f"do ((1 {first} 2) {last} 3 {first} 4 {last} (5 {first} 6)) !{last} 7;",
                               "too many operands")
        self.assertIsNone(problem_of("do (1 + 2 + 3 + 4 + 5) * 6 + (1 * 2 * 3 * 4 * 5) + 1;"))
        self.assertIsNone(problem_of("do ((((((1 < 2) < 3) < 4) < 5) < 6) < 7) == 8;"))
        self.assertIsNone(problem_of("do (1 or 2 or 3 or 4 or 5) and 6 or 7;"))

    def test_signs_in_front(self):
        for sign in ("-", "not "):
            self.assertIsNone(problem_of(f"do {sign * 4}1;"))
            self.check(f"do !{sign}({sign * 4}1);", "too many operands")
            self.check(f"do {sign}!-((not {sign}(-not 1)));", "too many operands")
            self.assertIsNone(problem_of(f"do {sign * 4}({sign * 4}1 + 2);"))
            self.assertIsNone(problem_of(f"do {sign}(({sign * 3}1));"))

    def test_signs_in_front_are_judged_behind_the_operand(self):
        self.check("do -(----!u);", "this name is unknown")
        self.check("do !-(----1) + u;", "too many operands")
        self.check("do -!-(----1);", "too many operands")
        self.check("do !u; do -(----1);", "this name is unknown")
        self.check("do !-(----(1 + @x(1))) + @y();", "too many operands")

    def test_the_first_of_several(self):
        self.check("var a; var !a; func a() { return b; } return c;", "this name stands already")
        self.check("var a; func f() { return !b; } return c;", "this name is unknown")
        self.check("do (1+1+1+1+1) !+ u; do v;", "too many operands")
        self.check("do (1+1+1+!u+1) + 1;", "this name is unknown")
        self.check("!a = b;", "this name is unknown")
        self.check("if !b { c = 1; } else { d = 1; }", "this name is unknown")
        self.check("if 1 { !c = 1; } else { d = 1; }", "this name is unknown")


class TreeTests(unittest.TestCase):
    def test_trees_of_texts(self):
        text = """var a; var b;
            func f(p, q) { var r; r = p; return r; wait; } func g() { }
            if a { b = 1; } if a { } else { b = 2; } if a { wait; } else { } while 0 { do f(1, a); do @me(); }
            a = 1 - 2 - 3 * not b div -(4); b = (a or 1) and 2 < (3 == 4);"""
        self.assertEqual(read_script(text, COMMANDS), (("a", "b"), (
            ("f", ("p", "q"), ("r",), (("set", "r", ("name", "p")), ("return", ("name", "r")), ("wait",))),
            ("g", (), (), ()),
        ), (
            ("if", A, (("set", "b", ONE),), ()), ("if", A, (), (("set", "b", ("int", 2)),)),
            ("if", A, (("wait",),), ()),
            ("while", ("int", 0), (("do", ("call", "f", (ONE, A))), ("do", ("ask", "me", ())))),
            ("set", "a", ("minus", ("minus", ONE, ("int", 2)), (
                "div", ("times", ("int", 3), ("not", ("name", "b"))), ("neg", ("int", 4))))),
            ("set", "b", ("and", ("or", A, ONE), ("lt", ("int", 2), ("eq", ("int", 3), ("int", 4))))),
        )))

    def test_numbers(self):
        self.assertEqual(read_script("do 0000000007;", []), ((), (), (("do", ("int", 7)),)))
        for number, holds in ((0, True), (2147483647, True), (-1, False), (2147483648, False)):
            self.assertIs(is_tree(value_tree(("int", number)), []), holds)

    def test_word_by_word(self):
        """Trees and changed trees are valid exactly if they are read from their text."""
        cases = Cases(33)
        counts = [0, 0]
        for tree in some_trees(60, 34):
            for _ in range(20):
                self.check_tree(tree, counts)
                path = cases.one(list(parts(tree)))
                other = part_at(tree, cases.one([some for some in parts(tree) if len(some) % 2 == len(path) % 2]))
                tree = cases.one((tree, replaced(tree, path, other)))
                if len(repr(tree)) > 8000:
                    break
        self.assertGreater(min(counts), 100)

    def check_tree(self, tree, counts):
        try:
            holds = read_script(plain_text(tree), COMMANDS) == tree
        except (BadScript, TypeError, ValueError, IndexError, AttributeError, KeyError):
            holds = False
        self.assertIs(is_tree(tree, COMMANDS), holds, tree)
        counts[holds] += 1

    def test_reading_what_was_written(self):
        for tree in some_trees(150, 35):
            text = script_text(tree)
            self.assertEqual(check_pure(self, read_script, text, COMMANDS), tree)
            self.assertEqual(plain_text(tree), text)
            self.assertIs(is_tree(tree, COMMANDS), True)

    def test_blanks_and_comments_change_nothing(self):
        cases = Cases(36)
        for tree in some_trees(60, 37):
            tokens = [token[1] for token in scan(script_text(tree))]
            text = "".join(cases.one((" ", "\n", "\t", "#{!\n", " # a9\n\n")) + token for token in tokens)
            if len(text) <= 4000:
                self.assertEqual(read_script(text, COMMANDS), tree)

    def test_wrong_parts(self):
        """No part of a tree can be replaced by a value of another kind, or be a list."""
        tree = some_tree(Cases(38))
        self.assertIs(is_tree(tree, COMMANDS), True)
        for path in parts(tree):
            part = part_at(tree, path)
            others = [None, True, 1.5, {}, [], (), -1, ("a",), ("int", True), "_", "", "A", "x" * 13, "var", (part,)]
            if isinstance(part, tuple):
                others += [list(part), (*part, part), part + ("a",)]
            for other in others:
                changed = replaced(tree, path, other)
                if type(other) is tuple and is_tree(changed, COMMANDS):
                    # Blocks and operands can be replaced by others; then the text tells it.
                    self.assertEqual(read_script(plain_text(changed), COMMANDS), changed)
                    continue
                self.assertIs(is_tree(changed, COMMANDS), False, (path, other))

    def test_no_trees(self):
        for value in (*NO_TUPLES, (), ((), ()), ((), (), (), ()), [(), (), ()], ([], (), ()), ((), [], ()), ((), (), []),
                      (("a", "a"), (), ()), (("if",), (), ()), (("a",), (("a", (), (), ()),), ()),
                      ((), (("f", (), (), ()), ("f", (), (), ())), ()), ((), (("do", (), (), ()),), ()),
                      ((), (("f", ("a", "a"), (), ()),), ()), ((), (("f", ("a",), ("a",), ()),), ()),
                      ((), (("f", ("not",), (), ()),), ()), ((), (("f", (), ("mod",), ()),), ()),
                      ((), (), (("return", ONE),)), ((), (("f", (), ()),), ()), ((), ("f",), ()),
                      ((), (("f", "ab", (), ()),), ()), ((), (("f", (), "ab", ()),), ()), ("ab", (), ())):
            self.assertIs(is_tree(value, COMMANDS), False, value)
            self.assertIs(is_tree(value, []), False, value)

    def test_bounds_of_trees(self):
        names = tuple(f"v{k}" for k in range(13))
        for variables, functions, holds in (
            (names[:12], (), True), (names, (), False),
            ((), tuple((name, (), (), ()) for name in names[:8]), True),
            ((), tuple((name, (), (), ()) for name in names[:9]), False),
            ((), (("f", names[:4], names[4:8], ()),), True), ((), (("f", names[:5], (), ()),), False),
            ((), (("f", names[:4], names[4:9], ()),), False), ((), (("f", (), names[:8], ()),), True),
            ((), (("f", (), names[:9], ()),), False),
        ):
            self.assertIs(is_tree((variables, functions, ()), []), holds)

    def test_names_in_trees(self):
        self.assertIs(is_tree(value_tree(A), []), True)
        self.assertIs(is_tree(value_tree(("name", "b")), []), False)
        self.assertIs(is_tree((("a",), (("f", ("p",), (), ()),), (("set", "p", ONE),)), []), False)
        for call, holds in ((("call", "f", (ONE,)), True), (("call", "f", ()), False), (("call", "g", ()), False),
                            (("call", "f", (ONE, ONE)), False), (("ask", "x", (ONE,)), True), (("ask", "x", ()), False),
                            (("ask", "f", (ONE,)), False), (("call", "x", (ONE,)), False), (("call", "f", [ONE]), False)):
            self.assertIs(is_tree(((), (("f", ("p",), (), ()),), (("do", call),)), COMMANDS), holds, call)
            self.assertIs(is_tree(((), (("f", ("p",), (), ()),), (("do", call),)), []), holds and call[0] == "call")

    def test_rows_of_operations(self):
        for word in (*BINARY, "neg", "not"):
            limit = 10 if word in ("eq", "ne", "lt", "le", "gt", "ge") else 4
            for many in (1, 3, 4, 5, 6):
                self.assertIs(is_tree(value_tree(rows(word, many)), []), many <= limit, (word, many))
        self.assertIs(is_tree(value_tree(rows("plus", 2, rows("minus", 2))), []), True)
        self.assertIs(is_tree(value_tree(rows("plus", 2, rows("minus", 3))), []), False)
        self.assertIs(is_tree(value_tree(rows("mod", 2, rows("div", 2, rows("times", 1)))), []), False)
        self.assertIs(is_tree(value_tree(rows("or", 4, rows("and", 4, rows("plus", 4)))), []), True)
        self.assertIs(is_tree(value_tree(rows("neg", 2, rows("not", 3))), []), False)
        self.assertIs(is_tree(value_tree(rows("neg", 4, rows("plus", 4, rows("not", 4)))), []), True)

    def test_the_eleventh_parenthesis(self):
        right = A
        for many in range(1, 13):
            right = ("plus", A, right)
            self.assertIs(is_tree(value_tree(right), []), many <= 11, many)
            self.assertEqual(expression_text(right).count("("), many - 1)
        calls = A
        for many in range(1, 13):
            calls = ("ask", "x", (calls,))
            self.assertIs(is_tree(value_tree(calls), COMMANDS), many <= 10, many)
        blocks = ()
        for many in range(1, 13):
            blocks = (("while", A, blocks),)
            self.assertIs(is_tree(body(*blocks), []), many <= 10, many)
            self.assertIs(is_tree((("a",), (("f", (), (), blocks),), ()), []), many <= 9, many)
        for inner, holds in (((), True), ((("if", A, (), ()),), False), ((("do", ("times", A, ("times", A, A))),), False),
                             ((("do", ("times", A, A)),), True), ((("do", ("ask", "me", ())),), False)):
            for _ in range(10):
                inner = (("if", A, (), inner),)
            self.assertIs(is_tree(body(*inner), COMMANDS), holds)

    def test_operands_where_ten_are_open(self):
        """In ten open braces, operands that need parentheses can not stand, others can."""
        words = (*BINARY, "neg", "not")
        for outer in words:
            for inner in words:
                operand = (inner, A) if inner in ("neg", "not") else (inner, A, A)
                for tree in [(outer, operand)] if outer in ("neg", "not") else [(outer, operand, A), (outer, A, operand)]:
                    block = (("do", tree),)
                    for _ in range(10):
                        block = (("while", A, block),)
                    self.assertIs(is_tree(body(*block), []), "(" not in expression_text(tree), tree)

    def test_statements_of_another_length(self):
        for statement, holds in (
            (("if", A, (), ()), True), (("if", A, ()), False), (("if", A), False), (("if", A, (), (), ()), False),
            (("while", A, ()), True), (("while", A), False), (("while", A, (), ()), False), (("while", (), A), False),
            (("wait",), True), (("wait", ()), False), (("wait", A), False), (("do", A), True), (("do",), False),
            (("do", A, A), False), (("set", "a", A), True), (("set", "a"), False), (("set", "a", A, A), False),
            (("set", A, A), False), (("pass",), False), (("if",), False), ((), False), ((["do"], A), False),
        ):
            self.assertIs(is_tree(body(statement), []), holds, statement)
            self.assertIs(is_tree((("a",), (("f", (), (), (statement,)),), ()), []), holds, statement)
        for statement, holds in ((("return", A), True), (("return",), False), (("return", A, A), False)):
            self.assertIs(is_tree((("a",), (("f", (), (), (statement,)),), ()), []), holds, statement)
            self.assertIs(is_tree((("a",), (("f", (), (), ()),), (statement,)), []), False, statement)
            self.assertIs(is_tree((("a",), (("f", (), (), (("wait",),)), ("g", (), (), ())), (statement,)), []), False)

    def test_deep_values_that_are_no_trees(self):
        for word in ("plus", "eq", "not", "or"):
            self.assertIs(is_tree(value_tree(rows(word, 50000)), []), False)
        right, calls, blocks = A, A, ()
        for _ in range(50000):
            right, calls, blocks = ("plus", A, right), ("ask", "x", (calls,)), (("if", A, blocks, ()),)
        for value in (value_tree(right), value_tree(calls), body(*blocks), right, blocks):
            self.assertIs(is_tree(value, COMMANDS), False)

    def test_long_trees(self):
        tree = body(*[("set", "a", A)] * 3000)
        self.assertIs(is_tree(tree, []), True)
        self.assertGreater(len(script_text(tree)), 4000)

    def test_errors(self):
        tree = value_tree(ONE)
        for commands in NO_COMMANDS:
            for value in (tree, None, 5):
                check_arguments(self, lambda some: is_tree(value, some), ([],), (("commands", [commands]),))


if __name__ == "__main__":
    unittest.main()
