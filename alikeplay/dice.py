"""Dice: draws, leaps, rolls, shuffles and picks that are a part of the state of a game."""

from alikeplay.checks import require
from alikeplay.whole import is_between, is_whole

FACTOR = 40014
PRIME = 2147483563
LAST_DICE = 2147483562
MOST_DRAWS = 8
MOST_SIDES = 65536
MOST_ITEMS = 64
MOST_WEIGHT = 1000
LONGEST_LEAP = 1000000000000


def is_dice(value):
    """Tell whether the value is dice."""
    return is_between(value, 1, LAST_DICE)


def dice_of(seed):
    """Return the dice of the seed."""
    require(is_whole(seed), "seed")
    return 1 + seed % LAST_DICE


def drawn(dice):
    """Return the next dice."""
    require(is_dice(dice), "dice")
    return _next_dice(dice)


def _next_dice(dice):
    return FACTOR * dice % PRIME


def leapt(dice, n):
    """Return the dice after n draws; for a negative n, those from which -n draws lead to the dice."""
    require(is_dice(dice), "dice")
    require(is_between(n, -LONGEST_LEAP, LONGEST_LEAP), "n")
    # The prime less 1 draws lead back to the same dice, so only what this number leaves of n counts.
    return _leap(dice, n % LAST_DICE)


def _leap(dice, draws):
    """Return the dice after this many draws, at least 0, by squaring the factor again and again."""
    landed = dice
    factor = FACTOR
    left = draws
    while left > 0:
        if left % 2 == 1:
            landed = landed * factor % PRIME
        factor = factor * factor % PRIME
        left = left // 2
    return landed


def rolled(dice, n):
    """Return the number that is rolled, from 0 to n - 1, and the dice after it."""
    require(is_dice(dice), "dice")
    require(is_between(n, 1, MOST_SIDES), "n")
    return _roll(dice, n)


def _roll(dice, n):
    limit = n * (LAST_DICE // n)
    last = _next_dice(dice)
    draws = 1
    while last > limit and draws < MOST_DRAWS:
        last = _next_dice(last)
        draws += 1
    return (last - 1) % n, last


def shuffled(dice, items):
    """Return the tuple of the shuffled items, and the dice after it."""
    require(is_dice(dice), "dice")
    require(isinstance(items, tuple) and len(items) <= MOST_ITEMS, "items")
    order = list(items)
    after = dice
    for index in range(len(items) - 1, 0, -1):
        other, after = _roll(after, index + 1)
        order[index], order[other] = order[other], order[index]
    return tuple(order), after


def picked(dice, weights):
    """Return the index that is picked by the weights, and the dice after it."""
    require(is_dice(dice), "dice")
    require(_are_weights(weights), "weights")
    number, after = _roll(dice, sum(weights))
    index = 0
    total = weights[0]
    while total <= number:
        index += 1
        total += weights[index]
    return index, after


def _are_weights(value):
    if not isinstance(value, tuple) or not 1 <= len(value) <= MOST_ITEMS:
        return False
    return all(is_between(weight, 0, MOST_WEIGHT) for weight in value) and any(value)
