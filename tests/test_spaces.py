"""Points 20 to 25, 27 to 29, 31 and 32: spaces, ticks and contacts."""

import unittest
from fractions import Fraction

from alikeplay.bodies import box_of, flown
from alikeplay.boxes import overlap
from alikeplay.spaces import energy, is_space, momenta_behind, momentum, pushed, tick
from alikeplay.whole import fraction_less
from helpers import NO_INTEGERS, NO_TUPLES, Cases, check_arguments, check_pure
from test_bodies import no_bodies

FAR = 20000
A = ("a", 0, 0, 10, 10, 1, 6, 0, 0, 0)
B = ("b", 15, 0, 10, 10, 3, -3, 0, 0, 0)
STONE = ("s", 40, 0, 10, 10, 0, 0, 0, 0, 0)
BOUNCES = ((0, 1), (1, 1), (1, 2), (2, 3), (999, 1000), (1, 1000))
NAMES = ("a", "aa", "b", "c", "d", "e", "f", "g", "h", "i", "z", "z9")
NO_BOUNCES = (*NO_TUPLES, (-1, 1), (3, 2), (1001, 1000), (1, 1001), (1000, 1001), (2, 4), (0, 2), (1, 0), (True, 1),
              (0, True), (0.5, 1), (1,), (1, 2, 3), [1, 1], (0, -1), (-1, 2))


def fixed(name, x, y, width=10, height=10):
    return (name, x, y, width, height, 0, 0, 0, 0, 0)


def free(name, x, y, mass=1, px=0, py=0, cx=0, cy=0, width=10, height=10):
    return (name, x, y, width, height, mass, px, py, cx, cy)


def some_space(cases, many, reach, side):
    """Return a space of at most so many bodies, in a square, packed the more closely the less the reach is."""
    bodies = []
    corner = cases.one((0, 0, FAR - reach, -FAR))
    for name in NAMES[:many]:
        width, height = cases.whole(1, side), cases.whole(1, side)
        x, y = corner + cases.whole(0, reach - width), corner + cases.whole(0, reach - height)
        mass = cases.one((0, 1, 1, 2, 3, 10, 99, 100))
        fast = cases.one((0, 1, 5, 40, 100, 10 ** 20)) * mass
        body = (name, x, y, width, height, mass, cases.whole(-fast, fast), cases.whole(-fast, fast),
                cases.whole(0, max(0, mass - 1)), cases.whole(0, max(0, mass - 1)))
        if not any(overlap(box_of(body), box_of(other)) for other in bodies):
            bodies.append(body)
    return tuple(bodies)


def some_spaces(count):
    cases = Cases(8)
    found = []
    for _ in range(count):
        reach = cases.one((50, 60, 100, 300))
        found.append((some_space(cases, cases.whole(0, 12), reach, cases.one((4, 15, 30, 50))), cases.one(BOUNCES)))
    return found


def slow_tick(space, bounce):
    """Make a tick word by word as points 21 to 23 tell it, with whole boxes all the time."""
    n, d = bounce
    now = {name: {"box": [x, y, x + w, y + h], "m": m, "p": [px, py], "c": [cx, cy]}
           for name, x, y, w, h, m, px, py, cx, cy in space}
    wishes, carries = {}, {}
    for name, body in now.items():
        for axis in (0, 1):
            sum_of_both, mass = body["p"][axis] + body["c"][axis], body["m"]
            wishes[name, axis] = min(64, max(-64, sum_of_both // mass)) if mass else 0
            carries[name, axis] = sum_of_both % mass if mass else 0
    contacts = []
    for axis in (0, 1):
        while any(wishes[name, axis] for name in now):
            for name in sorted(now):
                units = wishes[name, axis]
                if units == 0:
                    continue
                s = 1 if units > 0 else -1
                body = now[name]
                box = list(body["box"])
                box[axis] += s
                box[axis + 2] += s
                met = [other for other in sorted(now) if other != name
                       and all(box[k] < now[other]["box"][k + 2] and now[other]["box"][k] < box[k + 2]
                               for k in (0, 1))]
                if not met and all(-FAR <= number <= FAR for number in box):
                    body["box"] = box
                    wishes[name, axis] -= s
                    continue
                wishes[name, axis] = 0
                other = met[0] if met else ""
                u, m = s * body["p"][axis], body["m"]
                if not met or now[other]["m"] == 0:
                    j = (d + n) * u // d if u > 0 else 0
                else:
                    v, k = s * now[other]["p"][axis], now[other]["m"]
                    a = u * k - v * m
                    j = (d + n) * a // (d * (m + k)) if a > 0 else 0
                    now[other]["p"][axis] += s * j
                body["p"][axis] -= s * j
                contacts.append(("xy"[axis], s, name, other, j))
    behind = tuple((name, now[name]["box"][0], now[name]["box"][1], w, h, m, *now[name]["p"],
                    carries[name, 0], carries[name, 1]) for name, _, _, w, h, m, _, _, _, _ in space)
    return behind, contacts


def momenta_of(space):
    return [(body[6], body[7]) for body in space]


class SpaceTests(unittest.TestCase):
    def test_ordinary(self):
        row = tuple(fixed(name, 10 * index, 0) for index, name in enumerate(NAMES))
        for space in ((), (A,), (A, B), (A, B, STONE), row):
            self.assertIs(is_space(space), True)

    def test_no_spaces(self):
        for value in no_spaces():
            with self.subTest(value=value):
                self.assertIs(is_space(value), False)

    def test_names_are_ordered_as_strings(self):
        self.assertIs(is_space((fixed("a", 0, 0), fixed("a10", 10, 0), fixed("a2", 20, 0), fixed("b", 30, 0))), True)
        self.assertIs(is_space((fixed("a2", 0, 0), fixed("a10", 10, 0))), False)


def no_spaces():
    thirteen = tuple(fixed(name, 10 * index, 0) for index, name in enumerate((*NAMES, "zz")))
    found = [*(value for value in NO_TUPLES if value != ()), thirteen, [A, B], (B, A), (A, A), A, (A, 5), (A, list(B)),
             (free("a", 0, 0), free("b", 9, 9)), (free("a", 0, 0), free("b", 0, 0)),
             (free("a", 0, 0), free("b", 50, 0), free("c", 59, 9)), (free("a", 0, 0), free("a", 50, 0))]
    return found + [(value,) for value in no_bodies()]


class TickTests(unittest.TestCase):
    def test_document(self):
        behind, contacts = check_pure(self, tick, (A, B), (1, 1))
        self.assertEqual(contacts, [("x", 1, "a", "b", 10)])
        self.assertEqual(behind, (("a", 4, 0, 10, 10, 1, -4, 0, 0, 0), ("b", 14, 0, 10, 10, 3, 7, 0, 0, 0)))
        self.assertEqual((momentum((A, B)), momentum(behind)), ((3, 0), (3, 0)))
        self.assertEqual((energy((A, B)), energy(behind)), ((39, 1), (97, 3)))
        self.assertEqual(check_pure(self, momenta_behind, (A, B), (1, 1), contacts), [(-4, 0), (7, 0)])

    def test_nothing(self):
        self.assertEqual(tick((), (1, 1)), ((), []))
        self.assertEqual(tick((STONE,), (1, 1)), ((STONE,), []))

    def test_word_by_word(self):
        self.assertEqual(max(len(space) for space, _ in some_spaces(400)), 12)
        seen = 0
        for space, bounce in some_spaces(400):
            with self.subTest(space=space, bounce=bounce):
                found = tick(space, bounce)
                self.assertEqual(found, slow_tick(space, bounce))
                seen += len(found[1])
        self.assertGreater(seen, 400)

    def test_many_ticks(self):
        for space, bounce in some_spaces(12):
            for _ in range(20):
                behind = tick(space, bounce)
                self.assertEqual(behind, slow_tick(space, bounce))
                space = behind[0]

    def test_wish_is_at_most_64_units(self):
        for many in (65, -65, 10 ** 30, -10 ** 30):
            sign = 1 if many > 0 else -1
            behind = tick((free("a", 0, 0, 1, many, -many),), (1, 1))
            self.assertEqual(behind, ((free("a", 64 * sign, -64 * sign, 1, many, -many),), []))

    def test_wish_of_64_and_its_carry(self):
        self.assertEqual(tick((free("a", 0, 0, 3, 194, -192, 1, 2),), (0, 1))[0],
                         (free("a", 64, -64, 3, 194, -192, 0, 2),))

    def test_carry_is_the_rest_even_if_the_wish_is_less(self):
        self.assertEqual(tick((free("a", 0, 0, 10, 1003, -1003, 4, 4),), (0, 1))[0],
                         (free("a", 64, -64, 10, 1003, -1003, 7, 1),))

    def test_carry_is_the_rest_even_if_the_body_does_not_come_so_far(self):
        behind, contacts = tick((free("a", 0, 0, 10, 57, 0, 8), fixed("b", 12, 0)), (0, 1))
        self.assertEqual(contacts, [("x", 1, "a", "b", 57)])
        self.assertEqual(behind[0], free("a", 2, 0, 10, 0, 0, 5))

    def test_negative_momenta_go_down_to_the_next_integer(self):
        self.assertEqual(tick((free("a", 0, 0, 10, -1, -10, 0, 9),), (0, 1))[0],
                         (free("a", -1, -1, 10, -1, -10, 9, 9),))

    def test_a_carry_moves_in_the_end(self):
        space = (free("a", 0, 0, 100, 1),)
        for _ in range(99):
            space = tick(space, (1, 1))[0]
        self.assertEqual(space, (free("a", 0, 0, 100, 1, 0, 99),))
        self.assertEqual(tick(space, (1, 1))[0], (free("a", 1, 0, 100, 1),))

    def test_across_comes_first(self):
        space = (free("a", 0, 0, 1, 10, 10), fixed("b", 10, 10))
        behind, contacts = tick(space, (0, 1))
        self.assertEqual((behind[0][1:3], contacts), ((10, 0), [("y", 1, "a", "b", 10)]))

    def test_rounds_take_turns(self):
        # Both go one unit in each round, so they meet in the middle; the first name takes the fifth unit.
        space = (free("a", 0, 0, 1, 60), free("b", 15, 0, 1, -60))
        behind, contacts = tick(space, (0, 1))
        self.assertEqual((behind[0][1], behind[1][1]), (3, 13))
        self.assertEqual(contacts, [("x", -1, "b", "a", 60), ("x", 1, "a", "b", 0)])

    def test_a_row_follows_its_leader(self):
        # In a round, the body ahead has not moved yet if its name is greater.
        behind, contacts = tick((free("a", 0, 0, 1, 2), free("b", 10, 0, 1, 2)), (0, 1))
        self.assertEqual((contacts, behind[0][1], behind[1][1]), ([("x", 1, "a", "b", 0)], 0, 12))
        behind, contacts = tick((free("a", 10, 0, 1, 2), free("b", 0, 0, 1, 2)), (0, 1))
        self.assertEqual((contacts, behind[0][1], behind[1][1]), ([], 12, 2))

    def test_contact_is_with_the_first_name(self):
        space = (free("m", 0, 0, 1, 5), fixed("x", 10, 0, 5, 5), fixed("y", 10, 5, 5, 5))
        self.assertEqual(tick(space, (0, 1))[1], [("x", 1, "m", "x", 5)])
        space = (free("a", 10, 5, 1, 0, 0, 0, 0, 5, 5), free("m", 0, 0, 1, 5), fixed("x", 10, 0, 5, 5))
        self.assertEqual(tick(space, (0, 1))[1], [("x", 1, "m", "a", 2)])

    def test_no_body_passes_through_a_thin_one(self):
        space = (free("a", 0, 0, 1, 10 ** 9, 0, 0, 0, 1, 1), fixed("b", 30, 0, 1, 1))
        behind, contacts = tick(space, (1, 1))
        self.assertEqual(behind[0], free("a", 29, 0, 1, -10 ** 9, 0, 0, 0, 1, 1))
        self.assertEqual(contacts, [("x", 1, "a", "b", 2 * 10 ** 9)])

    def test_edge_of_the_world(self):
        for x, px, at in ((FAR - 13, 5, FAR - 10), (3 - FAR, -5, -FAR)):
            s = 1 if px > 0 else -1
            behind, contacts = tick((free("a", x, 0, 1, px),), (1, 1))
            self.assertEqual((behind, contacts), ((free("a", at, 0, 1, -px),), [("x", s, "a", "", 10)]))
            behind, contacts = tick((free("a", 0, x, 1, 0, px),), (0, 1))
            self.assertEqual((behind, contacts), ((free("a", 0, at),), [("y", s, "a", "", 5)]))

    def test_the_edge_itself_is_no_contact(self):
        self.assertEqual(tick((free("a", FAR - 15, 0, 1, 5),), (1, 1)), ((free("a", FAR - 10, 0, 1, 5),), []))

    def test_contacts_with_edge_and_body_in_one_tick(self):
        space = (free("a", FAR - 10, 0, 2, 7, 9), fixed("b", FAR - 10, 12))
        behind, contacts = tick(space, (1, 3))
        self.assertEqual(contacts, [("x", 1, "a", "", 9), ("y", 1, "a", "b", 12)])
        self.assertEqual(behind[0], free("a", FAR - 10, 2, 2, -2, -3, 1, 1))

    def test_momenta_passed_on_do_not_change_the_wishes(self):
        space = (free("a", 0, 0, 1, 20), free("b", 10, 0, 1, 3), free("c", 30, 0, 1, 0))
        behind, contacts = tick(space, (1, 1))
        self.assertEqual(contacts, [("x", 1, "a", "b", 17)])
        self.assertEqual([body[1] for body in behind], [0, 13, 30])
        self.assertEqual([body[6] for body in behind], [3, 20, 0])

    def test_contacts_pass_on_what_came_before(self):
        space = (free("a", 0, 0, 1, 20), free("b", 11, 0, 1, 3), free("c", 22, 0, 1, 0))
        behind, contacts = tick(space, (1, 1))
        self.assertEqual(contacts, [("x", 1, "b", "c", 3), ("x", 1, "a", "b", 20)])
        self.assertEqual([body[6] for body in behind], [0, 20, 3])

    def test_a_body_that_was_pushed_back_still_tries(self):
        # b wishes to the right; a contact gives it momentum to the left before its own contact.
        space = (free("a", 20, 0, 100, -900), free("b", 0, 0, 1, 12))
        behind, contacts = tick(space, (1, 1))
        self.assertEqual(contacts, [("x", -1, "a", "b", 41), ("x", 1, "b", "a", 0)])
        self.assertEqual(behind, (free("a", 15, 0, 100, -859), free("b", 5, 0, 1, -29)))

    def test_a_body_that_was_pushed_back_passes_nothing_on_to_a_fixed_one(self):
        space = (fixed("a", 11, 0, 5, 5), free("b", 0, 0, 1, 12, height=20), free("c", 11, 10, 100, -900))
        behind, contacts = tick(space, (1, 1))
        self.assertEqual(contacts, [("x", -1, "c", "b", 41), ("x", 1, "b", "a", 0)])
        self.assertEqual([body[6] for body in behind], [0, -29, -859])

    def test_equal_speeds_pass_nothing_on(self):
        space = (free("a", 0, 0, 1, 2), free("b", 10, 0, 1, 2))
        self.assertEqual(tick(space, (1, 1))[1], [("x", 1, "a", "b", 0)])

    def test_bounces_are_rounded_down(self):
        for bounce, j in (((0, 1), 7), ((1, 2), 10), ((1, 3), 9), ((999, 1000), 13), ((1, 1), 14)):
            self.assertEqual(tick((free("a", 0, 0, 1, 7), fixed("b", 10, 0)), bounce)[1], [("x", 1, "a", "b", j)])
        for bounce, j in (((0, 1), 5), ((1, 2), 7), ((1, 3), 7), ((999, 1000), 10), ((1, 1), 10)):
            space = (free("a", 0, 0, 1, 7), free("b", 10, 0, 3))
            self.assertEqual(tick(space, bounce)[1], [("x", 1, "a", "b", j)])

    def test_resting_bodies_stay(self):
        space = (free("a", 0, 0, 3, 0, 0, 2, 2), free("b", 0, 10, 7, 0, 0, 6, 6), fixed("c", 0, 20))
        for bounce in BOUNCES:
            self.assertEqual(tick(space, bounce), (space, []))

    def test_errors(self):
        wrong = (("space", no_spaces()), ("bounce", NO_BOUNCES))
        check_arguments(self, tick, ((A, B), (1, 1)), wrong)
        for bounce in ((0, 1), (1, 1), (1, 1000), (999, 1000)):
            tick((A, B), bounce)


class KeptTests(unittest.TestCase):
    def test_nothing_overlaps_and_forms_stay(self):
        for space, bounce in some_spaces(200):
            behind = tick(space, bounce)[0]
            self.assertIs(is_space(behind), True)
            for body, after in zip(space, behind):
                self.assertEqual((body[0], body[3:6]), (after[0], after[3:6]))
                self.assertTrue(body[5] > 0 or body == after)

    def test_momentum_is_kept(self):
        for space, bounce in some_spaces(200):
            behind, contacts = tick(space, bounce)
            firm = [""] + [body[0] for body in space if body[5] == 0]
            lost = [sum(s * j for axis, s, _, other, j in contacts if axis == way and other in firm) for way in "xy"]
            after = momentum(behind)
            self.assertEqual((after[0] + lost[0], after[1] + lost[1]), momentum(space))

    def test_energy_does_not_grow(self):
        for space, bounce in some_spaces(200):
            self.assertIs(fraction_less(energy(space), energy(tick(space, bounce)[0])), False)

    def test_contacts_are_listed_in_order(self):
        for space, bounce in some_spaces(200):
            contacts = tick(space, bounce)[1]
            tries = [(axis, name) for axis, _, name, _, _ in contacts]
            self.assertEqual(len(set(tries)), len(tries))
            self.assertEqual([axis for axis, _ in tries], sorted(axis for axis, _ in tries))

    def test_bodies_without_contacts_fly(self):
        flights = 0
        for space, bounce in some_spaces(200):
            behind, contacts = tick(space, bounce)
            named = {name for contact in contacts for name in contact[2:4]}
            for body, after in zip(space, behind):
                slow = 0 < body[5] and max(abs(body[6]), abs(body[7])) <= 63 * body[5]
                if slow and body[0] not in named:
                    flights += 1
                    self.assertEqual(after, flown(body, 1))
        self.assertGreater(flights, 50)

    def test_groups_far_apart(self):
        cases = Cases(9)
        for _ in range(100):
            first = some_space(cases, 6, 60, 20)
            if not first:
                continue
            right = max(box_of(body)[2] for body in first)
            shift = -300 if right > FAR - 300 else 0
            second = tuple((NAMES[6 + index], body[1] - min(b[1] for b in first) + right + 128, *body[2:])
                           for index, body in enumerate(first))
            first, second = (tuple((body[0], body[1] + shift, *body[2:]) for body in group)
                             for group in (first, second))
            both, contacts = tick(first + second, (1, 2))
            alone = [tick(group, (1, 2)) for group in (first, second)]
            self.assertEqual(both, alone[0][0] + alone[1][0])
            self.assertEqual(sorted(contacts), sorted(alone[0][1] + alone[1][1]))
            for names, group in zip((NAMES[:6], NAMES[6:]), alone):
                self.assertEqual([contact for contact in contacts if contact[2] in names], group[1])

    def test_bodies_128_units_apart_do_not_meet(self):
        space = (free("a", 0, 0, 1, 64), free("b", 138, 0, 1, -64))
        self.assertEqual(tick(space, (1, 1)), ((free("a", 64, 0, 1, 64), free("b", 74, 0, 1, -64)), []))


class JudgeTests(unittest.TestCase):
    def test_contacts_of_ticks_are_right(self):
        for space, bounce in some_spaces(200):
            behind, contacts = tick(space, bounce)
            self.assertEqual(momenta_behind(space, bounce, contacts), momenta_of(behind))

    def test_another_j_is_wrong(self):
        for space, bounce in some_spaces(100):
            contacts = tick(space, bounce)[1]
            for index, contact in enumerate(contacts):
                for j in (contact[4] + 1, max(0, contact[4] - 1), contact[4] + 10 ** 9):
                    if j != contact[4]:
                        told = [*contacts[:index], (*contact[:4], j), *contacts[index + 1:]]
                        self.assertIsNone(momenta_behind(space, bounce, told))

    def test_no_contacts(self):
        self.assertEqual(check_pure(self, momenta_behind, (A, B, STONE), (1, 1), []), [(6, 0), (-3, 0), (0, 0)])
        self.assertEqual(momenta_behind((), (1, 1), []), [])

    def test_contacts_need_not_come_from_a_tick(self):
        told = [("y", -1, "b", "s", 0), ("x", 1, "a", "", 12), ("x", -1, "a", "", 12), ("x", 1, "a", "b", 10)]
        self.assertEqual(momenta_behind((A, B, STONE), (1, 1), told), [(-4, 0), (7, 0), (0, 0)])

    def test_sign_and_axis(self):
        space = (free("a", 0, 0, 1, -5, 3), free("b", 50, 50, 1, 1, 1))
        self.assertEqual(momenta_behind(space, (0, 1), [("x", -1, "a", "b", 3), ("y", 1, "a", "b", 1)]),
                         [(-2, 2), (-2, 2)])
        self.assertIsNone(momenta_behind(space, (0, 1), [("x", 1, "a", "b", 3)]))
        self.assertEqual(momenta_behind(space, (0, 1), [("x", 1, "a", "b", 0), ("y", -1, "a", "b", 0)]),
                         [(-5, 3), (1, 1)])

    def test_who_goes_back_passes_nothing_on(self):
        space = (free("a", 0, 0, 1, -5, 5), fixed("b", 50, 50))
        for other in ("", "b"):
            self.assertEqual(momenta_behind(space, (1, 1), [("x", 1, "a", other, 0), ("y", -1, "a", other, 0)]),
                             [(-5, 5), (0, 0)])

    def test_order_counts(self):
        space = (free("a", 0, 0, 1, 20), free("b", 11, 0, 1, 3), free("c", 22, 0, 1, 0))
        told = [("x", 1, "b", "c", 3), ("x", 1, "a", "b", 20)]
        self.assertEqual(momenta_behind(space, (1, 1), told), [(0, 0), (20, 0), (3, 0)])
        self.assertIsNone(momenta_behind(space, (1, 1), told[::-1]))

    def test_bounce_counts(self):
        contacts = tick((A, B), (1, 1))[1]
        self.assertIsNone(momenta_behind((A, B), (0, 1), contacts))

    def test_errors(self):
        good = ("x", 1, "a", "b", 10)
        each = ((0, ("z", "X", "", "xy", None, 1, ["x"])), (1, (0, 2, -2, True, 1.0, "1", None)),
                (2, ("s", "", "q", "b2", None, 1, ("a",))), (3, ("a", "q", None, 1, True, ["b"])),
                (4, (-1, *NO_INTEGERS)))
        forms = [(*good[:index], value, *good[index + 1:]) for index, values in each for value in values]
        forms += [list(good), good[:4], (*good, 0), (), None, 5, "x", True]
        wrong = [None, 5, True, "", (), (good,), good, {}] + [[form] for form in forms]
        wrong += [[good, form] for form in forms]
        check_arguments(self, momenta_behind, ((A, B, STONE), (1, 1), [good]),
                        (("space", no_spaces()), ("bounce", NO_BOUNCES), ("contacts", wrong)))


class SumTests(unittest.TestCase):
    def test_momentum(self):
        self.assertEqual(momentum(()), (0, 0))
        self.assertEqual(momentum((STONE,)), (0, 0))
        self.assertEqual(momentum((free("a", 0, 0, 1, 10 ** 30, -5), free("b", 10, 0, 9, 1, 3))), (10 ** 30 + 1, -2))

    def test_energy(self):
        self.assertEqual(energy(()), (0, 1))
        self.assertEqual(energy((STONE,)), (0, 1))
        self.assertEqual(energy((free("a", 0, 0, 100, 10, 20), free("b", 10, 0, 3, -1, 1), STONE)), (17, 3))
        for space, _ in some_spaces(60):
            total = sum((Fraction(body[6] ** 2 + body[7] ** 2, body[5]) for body in space if body[5]), Fraction(0))
            self.assertEqual(energy(space), (total.numerator, total.denominator))

    def test_errors(self):
        for function in (momentum, energy):
            check_arguments(self, function, ((A, B),), (("space", no_spaces()),))


class PushTests(unittest.TestCase):
    def test_pushed(self):
        behind = pushed((A, B, STONE), "b", 5, -10 ** 30)
        self.assertEqual(behind, (A, ("b", 15, 0, 10, 10, 3, 2, -10 ** 30, 0, 0), STONE))
        self.assertEqual(pushed((A, B), "a", 0, 0), (A, B))
        self.assertEqual(pushed((free("a", 0, 0, 9, 1, 2, 3, 4),), "a", 10, 20), (free("a", 0, 0, 9, 11, 22, 3, 4),))

    def test_errors(self):
        wrong = (("space", no_spaces()), ("name", ("s", "c", "", "A", None, 1, True, ("a",), ["a"], b"a")),
                 ("jx", NO_INTEGERS), ("jy", NO_INTEGERS))
        check_arguments(self, pushed, ((A, B, STONE), "a", 1, -1), wrong)


if __name__ == "__main__":
    unittest.main()
