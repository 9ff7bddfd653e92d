"""Points 5, 19, 26, 29 and 30: names, bodies and flying."""

import unittest

from alikeplay.bodies import box_of, flown, is_body
from alikeplay.spaces import tick
from helpers import NO_INTEGERS, NO_TUPLES, Cases, check_arguments

FAR = 20000
BODY = ("a", 0, 0, 10, 10, 5, 7, -7, 4, 0)
FIXED = ("a", 0, 0, 10, 10, 0, 0, 0, 0, 0)
GOOD_NAMES = ("a", "z", "a0", "z9", "abcdefghijkl", "a12345678901")
BAD_NAMES = ("", "A", "0", "0a", "aB", "a_b", "a b", "a-", "abcdefghijklm", "\u00e9", "a\u00e9", "a\u0663", "a\n", "\u0430",
             None, 1, True, b"a", ("a",), ["a"])


def changed(body, index, value):
    return (*body[:index], value, *body[index + 1:])


def wrong_fields():
    """Return pairs of an index and values that are wrong there in BODY."""
    return (
        (0, BAD_NAMES),
        (1, (FAR - 9, FAR, -FAR - 1, *NO_INTEGERS)),
        (2, (FAR - 9, FAR, -FAR - 1, *NO_INTEGERS)),
        (3, (0, -1, 201, *NO_INTEGERS)),
        (4, (0, -1, 201, *NO_INTEGERS)),
        (5, (-1, 101, 4, 0, *NO_INTEGERS)),
        (6, NO_INTEGERS),
        (7, NO_INTEGERS),
        (8, (5, -1, *NO_INTEGERS)),
        (9, (5, -1, *NO_INTEGERS)),
    )


def no_bodies():
    found = [*NO_TUPLES, BODY[:9], (*BODY, 0), list(BODY), (), (1,) * 10]
    found += [changed(BODY, index, value) for index, values in wrong_fields() for value in values]
    found += [changed(FIXED, index, 1) for index in (6, 7, 8, 9)] + [changed(FIXED, index, -1) for index in (6, 7, 8, 9)]
    return found + [changed(FIXED, index, False) for index in range(5, 10)]


class BodyTests(unittest.TestCase):
    def test_ordinary(self):
        for body in (BODY, FIXED, ("hero2", -5, 7, 200, 1, 100, 10 ** 40, -10 ** 40, 99, 99)):
            self.assertIs(is_body(body), True)

    def test_names(self):
        for name in GOOD_NAMES:
            self.assertIs(is_body(changed(BODY, 0, name)), True)

    def test_bounds(self):
        for body in (("a", -FAR, -FAR, 1, 1, 1, 0, 0, 0, 0), ("a", FAR - 200, FAR - 1, 200, 1, 100, 0, 0, 99, 0),
                     ("a", FAR - 1, FAR - 200, 1, 200, 0, 0, 0, 0, 0)):
            self.assertIs(is_body(body), True)

    def test_no_bodies(self):
        for value in no_bodies():
            with self.subTest(value=value):
                self.assertIs(is_body(value), False)

    def test_box_of(self):
        self.assertEqual(box_of(("a", -3, 4, 10, 20, 5, 7, 7, 4, 0)), (-3, 4, 7, 24))
        self.assertEqual(box_of(("a", FAR - 1, FAR - 2, 1, 2, 0, 0, 0, 0, 0)), (FAR - 1, FAR - 2, FAR, FAR))

    def test_box_of_errors(self):
        check_arguments(self, box_of, (BODY,), (("body", no_bodies()),))


class FlightTests(unittest.TestCase):
    def test_formula(self):
        self.assertEqual(flown(("a", 1, 2, 10, 10, 5, 7, -7, 4, 0), 3), ("a", 6, -3, 10, 10, 5, 7, -7, 0, 4))
        self.assertEqual(flown(BODY, 0), BODY)
        self.assertEqual(flown(BODY, 1), ("a", 2, -2, 10, 10, 5, 7, -7, 1, 3))

    def test_very_many_ticks_lead_outside(self):
        body = ("a", FAR - 1, 1 - FAR, 1, 1, 100, 6300, -6300, 99, 99)
        self.assertEqual(flown(body, 10 ** 6), ("a", FAR - 1 + 63 * 10 ** 6, 1 - FAR - 63 * 10 ** 6, *body[3:]))
        slow = ("a", 0, 0, 1, 1, 100, 1, -1, 0, 0)
        self.assertEqual(flown(slow, 10 ** 6 - 1), ("a", 9999, -10000, 1, 1, 100, 1, -1, 99, 1))

    def test_flights_add_up(self):
        cases = Cases(6)
        for _ in range(200):
            mass = cases.whole(1, 100)
            body = ("a", cases.whole(-99, 99), 5, 3, 4, mass, cases.whole(-2 * mass, 2 * mass),
                    cases.whole(-2 * mass, 2 * mass), cases.whole(0, mass - 1), cases.whole(0, mass - 1))
            n, m = cases.whole(0, 900), cases.whole(0, 900)
            self.assertEqual(flown(flown(body, n), m), flown(body, n + m))

    def test_ticks_alone_do_the_same(self):
        cases = Cases(7)
        for _ in range(60):
            mass = cases.one((1, 2, 3, 7, 99, 100))
            body = ("a", cases.whole(-99, 99), 5, 3, 4, mass, cases.whole(-63 * mass, 63 * mass),
                    cases.whole(-63 * mass, 63 * mass), cases.whole(0, mass - 1), cases.whole(0, mass - 1))
            space = (body,)
            for n in range(20):
                self.assertEqual(space, (flown(body, n),))
                space, contacts = tick(space, (1, 1))
                self.assertEqual(contacts, [])

    def test_errors(self):
        mass_5 = ("a", 0, 0, 10, 10, 5, 315, -315, 4, 0)
        too_fast = [changed(mass_5, index, value) for index in (6, 7) for value in (316, -316, 10 ** 30)]
        wrong = (("body", (*no_bodies(), FIXED, *too_fast)), ("n", (-1, 10 ** 6 + 1, *NO_INTEGERS)))
        check_arguments(self, flown, (mass_5, 10 ** 6), wrong)
        self.assertEqual(flown(changed(mass_5, 6, -315), 1)[1], -63 + 0)


if __name__ == "__main__":
    unittest.main()
