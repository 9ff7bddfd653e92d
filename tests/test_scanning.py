"""Points 45 to 47 and 58: the tokens of a text."""

import re
import unittest

from alikeplay.errors import BadScript
from alikeplay.scanning import scan
from helpers import Cases, check_arguments, check_pure
from scripts import RESERVED, SIGNS

NO_TEXTS = (None, True, 0, 1.5, b"x", (), ["x"], ("x",), "x" * 4001, " " * 4001)
PROBLEMS = {"no": "no token begins here", "word": "a word has at most 12 characters",
            "number": "a number is at most 2147483647", "deep": "nested too deep"}

TOKEN = re.compile(r"(?P<word>[a-z][a-z0-9]*)|(?P<number>[0-9]+)|(?P<sign>[=!<>]=|[{}();,@=<>+*-])")


def slow_scan(text):
    """Scan by regular expressions and places that are counted anew for each token."""
    found = []
    opened = []
    at = 0
    while True:
        at = re.compile(r"(?:[ \n\t]|#[^\n]*)*").match(text, at).end()
        line = 1 + text[:at].count("\n")
        column = at - text[:at].rfind("\n")
        if at == len(text):
            return found + [("end", "", line, column)]
        token = TOKEN.match(text, at)
        problem = None
        if token is None:
            problem = "no"
        elif token["word"] and len(token["word"]) > 12:
            problem = "word"
        elif token["number"] and (len(token["number"]) > 10 or int(token["number"]) >= 2 ** 31):
            problem = "number"
        elif token[0] in "({" and len(opened) == 10:
            problem = "deep"
        if problem is not None:
            return line, column, PROBLEMS[problem]
        if token[0] in "({":
            opened.append(token[0])
        elif token[0] in ")}" and opened:
            opened.pop()
        kind = "reserved" if token[0] in RESERVED else "name" if token["word"] else token.lastgroup
        found.append((kind, token[0], line, column))
        at = token.end()


def scanned(text):
    """Return the tokens, or the place and the words of the problem."""
    try:
        return scan(text)
    except BadScript as problem:
        return problem.line, problem.column, problem.words


class ScanTests(unittest.TestCase):
    def kinds(self, text):
        return [token[:2] for token in scan(text)[:-1]]

    def test_empty(self):
        self.assertEqual(scan(""), [("end", "", 1, 1)])
        self.assertEqual(scan(" \t\n\n  "), [("end", "", 3, 3)])
        self.assertEqual(scan("# it { 9x ! \n"), [("end", "", 2, 1)])

    def test_a_line(self):
        self.assertEqual(scan("var n; n=12 # end"), [
            ("reserved", "var", 1, 1), ("name", "n", 1, 5), ("sign", ";", 1, 6), ("name", "n", 1, 8),
            ("sign", "=", 1, 9), ("number", "12", 1, 10), ("end", "", 1, 18)])

    def test_letters_and_digits(self):
        for letter in "abcdefghijklmnopqrstuvwxyz":
            self.assertEqual(self.kinds(f"{letter} 1{letter}"), [("name", letter), ("number", "1"), ("name", letter)])
            self.assertEqual(len(self.kinds(f"{letter} ".join("{" * 10))), 19)
            self.assertEqual(self.kinds(f"({letter} " * 5 + "(" * 5)[-1], ("sign", "("))
        for digit in "0123456789":
            self.assertEqual(self.kinds(f"{digit} x{digit}"), [("number", digit), ("name", f"x{digit}")])

    def test_reserved_words_and_signs(self):
        for word in RESERVED:
            self.assertEqual(scan(word), [("reserved", word, 1, 1), ("end", "", 1, len(word) + 1)])
            self.assertEqual(self.kinds(word + "1 x" + word), [("name", word + "1"), ("name", "x" + word)])
        for sign in SIGNS:
            self.assertEqual(scan(sign), [("sign", sign, 1, 1), ("end", "", 1, len(sign) + 1)])

    def test_tokens_are_as_long_as_possible(self):
        self.assertEqual(self.kinds("===!=<==>=>>-->"), [("sign", sign) for sign in (
            "==", "=", "!=", "<=", "=", ">=", ">", ">", "-", "-", ">")])
        self.assertEqual(self.kinds("12ab3c 4"), [("number", "12"), ("name", "ab3c"), ("number", "4")])
        self.assertEqual(self.kinds("iff if"), [("name", "iff"), ("reserved", "if")])
        self.assertEqual(self.kinds("a#b\nc"), [("name", "a"), ("name", "c")])
        self.assertEqual(self.kinds("= ="), [("sign", "="), ("sign", "=")])

    def test_places(self):
        self.assertEqual(scan("\ta\n\n b\n#c\nd"), [
            ("name", "a", 1, 2), ("name", "b", 3, 2), ("name", "d", 5, 1), ("end", "", 5, 2)])
        self.assertEqual(scan("a # \u00e9\t!")[-1], ("end", "", 1, 8))

    def test_long_words(self):
        self.assertEqual(self.kinds("a23456789012"), [("name", "a23456789012")])
        self.assertEqual(scanned("x a234567890123 !"), (1, 3, PROBLEMS["word"]))

    def test_numbers(self):
        for number in ("0", "00", "2147483647", "0000000001", "0000000000"):
            self.assertEqual(self.kinds(number), [("number", number)])
        for number in ("2147483648", "9999999999", "00000000000", "00000000001", "12345678901", "9" * 3000):
            self.assertEqual(scanned("\n " + number), (2, 2, PROBLEMS["number"]))

    def test_characters_that_begin_nothing(self):
        for sign in "!_AZ.%/\\\"'&|[]~^?:$`\r\x0b\x0c\x00\x7f\u00a0\u00b2\u00e9\u0661\u4e00\U0001f600":
            self.assertEqual(scanned("a " + sign + " 99999999999"), (1, 3, PROBLEMS["no"]), sign)
            self.assertEqual(scanned("ab1" + sign), (1, 4, PROBLEMS["no"]), sign)
            self.assertEqual(scanned("#" + sign), [("end", "", 1, 3)], sign)
        self.assertEqual(scanned("!!="), (1, 1, PROBLEMS["no"]))
        self.assertEqual(scanned("! ="), (1, 1, PROBLEMS["no"]))

    def test_depth(self):
        self.assertEqual(len(scan("(" * 10)), 11)
        self.assertEqual(len(scan("({" * 5 + ")" * 30)), 41)
        self.assertEqual(scanned("(" * 11), (1, 11, PROBLEMS["deep"]))
        self.assertEqual(scanned("({" * 5 + "\n{"), (2, 1, PROBLEMS["deep"]))
        self.assertEqual(len(scan("({" * 5 + "))" + "((" + "}}" + "{{")), 19)
        self.assertEqual(scanned("({" * 5 + "})" + "(((")[1:], (15, PROBLEMS["deep"]))
        self.assertEqual(scanned(")})" + "(" * 11)[1:], (14, PROBLEMS["deep"]))
        self.assertEqual(len(scan("()" * 50 + "{" * 10)), 111)

    def test_the_first_problem(self):
        self.assertEqual(scanned("99999999999 !"), (1, 1, PROBLEMS["number"]))
        self.assertEqual(scanned("! 99999999999"), (1, 1, PROBLEMS["no"]))
        self.assertEqual(scanned("(" * 11 + "!"), (1, 11, PROBLEMS["deep"]))
        self.assertEqual(scanned("a234567890123(!"), (1, 1, PROBLEMS["word"]))

    def test_word_by_word(self):
        cases = Cases(31)
        pieces = ["var", "ab1", "x", "123456789012", "2147483648", "17", "{", "(", "}", ")", "(", "{", "!", "=", "<", ">",
                  "-", "*", "+", " ", "\n", "\t", "#", "@", ",", ";", "abcdefgh", "A"]
        problems = {}
        for index in range(6000):
            some = pieces if index % 2 else ["(", "{", "(", ")", "} ", "\n", "ab1", "# (\n", "12"]
            text = "".join(cases.one(some) for _ in range(cases.whole(0, 40))).replace("!", cases.one(("!", "!=")))
            found = scanned(text)
            self.assertEqual(found, slow_scan(text), text)
            problem = found[2] if isinstance(found, tuple) else None
            problems[problem] = problems.get(problem, 0) + 1
        self.assertEqual(len(problems), 5)
        self.assertGreater(min(problems.values()), 20)

    def test_errors(self):
        self.assertEqual(scan(" " * 4000), [("end", "", 1, 4001)])
        self.assertEqual(scan("\n" * 4000), [("end", "", 4001, 1)])
        check_pure(self, scan, "a = 1;")
        check_arguments(self, scan, ("a = 1;",), (("text", NO_TEXTS),))


if __name__ == "__main__":
    unittest.main()
