"""Points 12 to 18: draws, leaps, rolls, shuffles and picks."""

import unittest
from unittest import mock

from alikeplay.dice import dice_of, drawn, is_dice, leapt, picked, rolled, shuffled
from helpers import NO_INTEGERS, NO_TUPLES, Cases, check_arguments, check_pure

PRIME = 2147483563
LAST = 2147483562
NO_DICE = (0, -1, PRIME, 2 ** 40, -LAST, *NO_INTEGERS)
SOME_DICE = (1, 2, 3, 40014, 12345, 1601120196, LAST // 2, LAST - 1, LAST)
LIMIT = 10 ** 12


def before(dice):
    """Return the dice from which one draw leads to these."""
    return dice * pow(40014, -1, PRIME) % PRIME


def roll(dice, n):
    """Roll as point 14 says it, word by word."""
    for _ in range(8):
        dice = 40014 * dice % PRIME
        if dice <= n * (LAST // n):
            break
    return (dice - 1) % n, dice


class DiceTests(unittest.TestCase):
    def test_is_dice(self):
        for dice in SOME_DICE:
            self.assertIs(is_dice(dice), True)
        for value in NO_DICE:
            self.assertIs(is_dice(value), False)

    def test_document(self):
        self.assertEqual((dice_of(0), drawn(1), drawn(40014)), (1, 40014, 1601120196))
        self.assertEqual((leapt(1, 2), leapt(1601120196, -2)), (1601120196, 1))
        self.assertEqual(rolled(1, 6), (5, 40014))

    def test_dice_of(self):
        self.assertEqual([dice_of(seed) for seed in (0, 1, -1, LAST - 1, LAST, LAST + 1, -LAST, -LAST - 1)],
                         [1, 2, LAST, LAST, 1, 2, 1, LAST])
        for seed in (10 ** 30, -10 ** 30, 2 ** 64):
            self.assertEqual(dice_of(seed), 1 + seed % LAST)
            self.assertIs(is_dice(dice_of(seed)), True)

    def test_drawn(self):
        self.assertEqual(drawn(LAST), PRIME - 40014)
        for dice in SOME_DICE:
            self.assertEqual(drawn(dice), 40014 * dice % PRIME)
            self.assertEqual(drawn(before(dice)), dice)

    def test_errors(self):
        check_arguments(self, dice_of, (0,), (("seed", NO_INTEGERS),))
        check_arguments(self, drawn, (1,), (("dice", NO_DICE),))


class LeapTests(unittest.TestCase):
    def test_one_by_one(self):
        for start in SOME_DICE:
            ahead = behind = start
            for n in range(70):
                self.assertEqual((leapt(start, n), leapt(start, -n)), (ahead, behind))
                ahead, behind = drawn(ahead), before(behind)

    def test_round(self):
        for dice in SOME_DICE:
            self.assertEqual([leapt(dice, n) for n in (0, LAST, -LAST, 2 * LAST)], [dice] * 4)
            self.assertEqual(leapt(dice, LAST + 1), drawn(dice))
            self.assertEqual(leapt(dice, LAST - 1), before(dice))

    def test_half_round_is_no_round(self):
        self.assertEqual(leapt(1, LAST // 2), LAST)

    def test_bounds(self):
        for dice in SOME_DICE:
            self.assertEqual(leapt(dice, LIMIT), dice * pow(40014, LIMIT, PRIME) % PRIME)
            self.assertEqual(leapt(leapt(dice, -LIMIT), LIMIT), dice)

    def test_leaps_add_up(self):
        cases = Cases(2)
        for _ in range(60):
            dice, a, b = cases.whole(1, LAST), cases.whole(-10 ** 9, 10 ** 9), cases.whole(-10 ** 9, 10 ** 9)
            self.assertEqual(leapt(leapt(dice, a), b), leapt(dice, a + b))

    def test_errors(self):
        wrong = (LIMIT + 1, -LIMIT - 1, *NO_INTEGERS)
        check_arguments(self, leapt, (1, 0), (("dice", NO_DICE), ("n", wrong)))


class RollTests(unittest.TestCase):
    def test_all_numbers(self):
        cases = Cases(3)
        for n in (*range(1, 70), 1000, 32768, 65535, 65536):
            for dice in (*SOME_DICE, *(cases.whole(1, LAST) for _ in range(10))):
                self.assertEqual(rolled(dice, n), roll(dice, n))
                self.assertIn(rolled(dice, n)[0], range(n))

    def test_one_side(self):
        self.assertEqual(rolled(1, 1), (0, 40014))
        self.assertEqual(rolled(before(LAST), 1), (0, LAST))

    def test_draw_at_the_limit_counts(self):
        for n in (7, 1000, 65536):
            limit = n * (LAST // n)
            self.assertEqual(rolled(before(limit), n), (n - 1, limit))

    def test_draw_above_the_limit_does_not_count(self):
        for n in (5, 1000, 65535, 65536):
            limit = n * (LAST // n)
            self.assertLess(limit, LAST)
            for above in (limit + 1, LAST):
                self.assertEqual(rolled(before(above), n), roll(above, n))
                self.assertNotEqual(rolled(before(above), n)[1], above)

    def test_two_draws_above_the_limit(self):
        for n, first in ((65536, 2147429894), (65536, LAST), (65534, 2147429894), (65534, LAST)):
            limit = n * (LAST // n)
            self.assertGreater(min(first, drawn(first)), limit)
            self.assertLessEqual(leapt(first, 2), limit)
            self.assertEqual(rolled(before(first), n), ((leapt(first, 2) - 1) % n, leapt(first, 2)))

    def test_errors(self):
        wrong = (0, -1, 65537, 2 ** 40, *NO_INTEGERS)
        check_arguments(self, rolled, (1, 6), (("dice", NO_DICE), ("n", wrong)))


class LastDrawTests(unittest.TestCase):
    """No dice are known from which eight draws are above a limit, so the draws are put in here."""

    def roll(self, draws):
        with mock.patch("alikeplay.dice._next_dice", side_effect=draws):
            return rolled(1, 65536)

    def test_the_eighth_draw_counts_whatever_it_is(self):
        above = [LAST - index for index in range(9)]
        self.assertEqual(self.roll(above), ((above[7] - 1) % 65536, above[7]))

    def test_the_first_draw_that_is_not_above_counts(self):
        for many in range(8):
            draws = [LAST] * many + [5, 6, 7]
            self.assertEqual(self.roll(draws), (4, 5))


class ShuffleTests(unittest.TestCase):
    def test_word_by_word(self):
        for count in (0, 1, 2, 3, 10, 63, 64):
            for dice in SOME_DICE:
                order, after = list(range(count)), dice
                for index in reversed(range(1, count)):
                    other, after = roll(after, index + 1)
                    order[index], order[other] = order[other], order[index]
                self.assertEqual(check_pure(self, shuffled, dice, tuple(range(count))), (tuple(order), after))

    def test_none_and_one_draw_nothing(self):
        self.assertEqual(shuffled(9, ()), ((), 9))
        self.assertEqual(shuffled(9, ("a",)), (("a",), 9))

    def test_any_items(self):
        items, after = shuffled(5, (True, None, "b", (1, 2), 7, 7))
        self.assertEqual(sorted(map(str, items)), sorted(map(str, (True, None, "b", (1, 2), 7, 7))))
        self.assertIsInstance(items, tuple)
        self.assertEqual(after, leapt(5, 5))

    def test_errors(self):
        wrong = (*NO_TUPLES, (0,) * 65)
        check_arguments(self, shuffled, (1, (1,) * 64), (("dice", NO_DICE), ("items", wrong)))


class PickTests(unittest.TestCase):
    def test_word_by_word(self):
        cases = Cases(4)
        for _ in range(300):
            weights = tuple(cases.whole(0, 1000) * cases.whole(0, 1) for _ in range(cases.whole(1, 64)))
            dice = cases.whole(1, LAST)
            if any(weights):
                number, after = roll(dice, sum(weights))
                index = min(k for k in range(len(weights)) if sum(weights[:k + 1]) > number)
                self.assertEqual(picked(dice, weights), (index, after))
                self.assertGreater(weights[index], 0)

    def test_each_number_has_its_index(self):
        seen = {}
        for dice in range(1, LAST, LAST // 400):
            seen[rolled(dice, 6)[0]] = picked(dice, (0, 1, 0, 2, 0, 0, 3, 0))[0]
        self.assertEqual(seen, {0: 1, 1: 3, 2: 3, 3: 6, 4: 6, 5: 6})

    def test_bounds(self):
        self.assertEqual(picked(1, (1,)), (0, 40014))
        self.assertEqual(picked(1, (0,) * 63 + (1000,)), (63, 40014))
        for dice in SOME_DICE:
            number, after = roll(dice, 64000)
            self.assertEqual(picked(dice, (1000,) * 64), (number // 1000, after))

    def test_errors(self):
        wrong = (*NO_TUPLES, (), (0,), (0, 0, 0), (1,) * 65, (1001,), (-1, 2), (True,), (1, False), (1, None), ("1",),
                 (1.0,), [1], (0, True))
        check_arguments(self, picked, (1, (1, 0)), (("dice", NO_DICE), ("weights", wrong)))


class SameTests(unittest.TestCase):
    def test_kept_dice_give_the_same(self):
        for dice in SOME_DICE:
            self.assertEqual([rolled(dice, 100)] * 3, [rolled(dice, 100) for _ in range(3)])

    def test_a_long_run_is_the_same_on_every_machine(self):
        dice, total = dice_of(2024), 0
        for _ in range(2000):
            number, dice = rolled(dice, 1000)
            total = (total * 31 + number) % 1000003
        self.assertEqual(dice, leapt(dice_of(2024), 2000))
        self.assertEqual((total, dice), EXPECTED_RUN)


# Made once; a change of it would be a change of every saved game.
EXPECTED_RUN = (721855, 1215641496)


if __name__ == "__main__":
    unittest.main()
