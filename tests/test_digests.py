"""Points 84 and 98: texts and digests of plain data."""

import sys
import unittest

from alikeplay.digests import data_text, digest
from alikeplay.games import first_state, step
from alikeplay.plaintexts import data_of
from helpers import Cases, check_arguments, check_pure
from worlds import some_game, some_inputs

# Python's functions write and read no numbers of more than so many digits.
LONG = 10 ** 5000 + 7
NO_DATA = ([], [1], {}, 1.5, b"x", frozenset(), (1, [2]), ((), ((), [])), '"', 'a"b', (1, ('"',)), (1.0,), ({},), int, len)


def slow_text(data):
    if isinstance(data, tuple):
        return "(" + ",".join(slow_text(item) for item in data) + ")"
    if isinstance(data, str):
        return f'"{data}"'
    return {None: "n", True: "t", False: "f"}[data] if data is None or isinstance(data, bool) else str(data)


def slow_digest(text):
    """Add up powers of 131, in place of going from character to character."""
    total = 7 * pow(131, len(text), 2147483647)
    for index, sign in enumerate(text):
        total += ord(sign) * pow(131, len(text) - 1 - index, 2147483647)
    return total % 2147483647


def some_data(cases, deep):
    kind = cases.whole(0, 9)
    if kind < 5 and deep > 0:
        return tuple(some_data(cases, deep - 1) for _ in range(cases.whole(0, 4)))
    if kind == 5:
        return cases.one((None, True, False))
    if kind < 8:
        return cases.one((0, 1, -1, 10, 64, -64, 2147483647, -2147483648, 10 ** 20, -10 ** 70, cases.whole(0, 10 ** 9)))
    return cases.one(("", "a", "ready", "n", "(", ",", "1", "-", "\n\\", "\u00e9\u4e00", "t f"))


class TextTests(unittest.TestCase):
    def test_document(self):
        self.assertEqual(data_text((1, -2, ("a", None, True))), '(1,-2,("a",n,t))')
        self.assertEqual(digest(()), 125408)

    def test_single_values(self):
        for data, text in ((None, "n"), (True, "t"), (False, "f"), (0, "0"), (1, "1"), (-1, "-1"), ("", '""'), ("n", '"n"'),
                           ((), "()"), ((None,), "(n)"), (((), ((),)), "((),(()))"), ((1, 2, 3), "(1,2,3)"), ("()", '"()"'),
                           ("a\nb\\", '"a\nb\\"'), ("\u00e9", '"\u00e9"'), (10 ** 70, "1" + "0" * 70), (-10 ** 64, "-1" + "0" * 64),
                           (10 ** 64 - 1, "9" * 64)):
            self.assertEqual(data_text(data), text)
            self.assertEqual(digest(data), slow_digest(text))

    def test_word_by_word(self):
        cases = Cases(81)
        for _ in range(1500):
            data = some_data(cases, 4)
            self.assertEqual(check_pure(self, data_text, data), slow_text(data))
            self.assertEqual(digest(data), slow_digest(slow_text(data)))

    def test_data_of_texts(self):
        """A text is read as the data that have it, and no other text is read."""
        cases = Cases(84)
        read = 0
        for _ in range(1500):
            data = some_data(cases, 3)
            text = data_text(data)
            self.assertEqual(repr(data_of(text)), repr([data]))
            at = cases.whole(0, len(text))
            changed = text[:at] + cases.one(("", "0", "-", ",", "(", ")", '"', "t", "n", "x", "1", " "))
            changed += text[at + cases.whole(0, 1):]
            found = data_of(changed)
            self.assertEqual([data_text(some) for some in found], [changed] if found else [])
            read += len(found)
        self.assertGreater(read, 300)
        for text in ("", "x", '"', '"a', '"""', "-", "-0", "00", "01", "--1", "1-1", ",", "(,)", "(1,)", "(,1)", "(1,,2)", "(1 ,2)",
                     "(", ")", ")(", "())", "(()", "1,2", "nn", "tf", "n,", "(n", "n)", "\u0661", "+1", "1.0", "T", "N", "[]"):
            self.assertEqual(data_of(text), [], text)

    def test_one_data_has_one_text(self):
        cases = Cases(82)
        found = {}
        for _ in range(3000):
            data = some_data(cases, 3)
            self.assertEqual(repr(found.setdefault(data_text(data), data)), repr(data))

    def test_states(self):
        cases = Cases(83)
        for seed in range(10):
            game = some_game(cases)
            state = first_state(game, seed)
            for _ in range(8):
                state = step(game, state, some_inputs(cases))[0]
                self.assertEqual(data_text(state), slow_text(state))
                self.assertEqual(digest(state), slow_digest(slow_text(state)))
                self.assertTrue(0 <= digest(state) < 2147483647)

    def test_deep_and_long_data(self):
        data = ()
        for _ in range(20000):
            data = (data,)
        self.assertEqual(data_text(data), "(" * 20001 + ")" * 20001)
        self.assertEqual(digest((1,) * 5000), slow_digest("(" + ",".join("1" * 5000) + ")"))
        limit = sys.get_int_max_str_digits()
        self.assertEqual(data_text((LONG, -LONG)), "(1" + "0" * 4999 + "7,-1" + "0" * 4999 + "7)")
        self.assertEqual(sys.get_int_max_str_digits(), limit)

    def test_digests_differ(self):
        digests = {digest(data) for data in (1, 2, -1, "1", (1,), ((1,),), None, True, False, "n", "t", (1, 2), (2, 1), (12,))}
        self.assertEqual(len(digests), 14)

    def test_errors(self):
        check_arguments(self, data_text, ((),), (("data", NO_DATA),))
        check_arguments(self, digest, ((),), (("data", NO_DATA),))


if __name__ == "__main__":
    unittest.main()
