"""What several test files need."""

import copy
import itertools

from alikeplay.errors import BadValue

# Values that are no integers, whatever the bounds are; True and False would pass for 1 and 0.
NO_INTEGERS = (True, False, None, "", "1", 1.0, (1,), [1], {}, b"1")
NO_TUPLES = (None, True, 0, "", "abcd", [], [1, 2], {}, 1.5)


def draws(seed):
    """Yield numbers from 0 to 2 ** 31 - 2 that are the same at every run, to make cases of."""
    number = seed * 2 + 1
    while True:
        number = (number * 1103515245 + 12345) % (2 ** 63)
        yield (number >> 20) % (2 ** 31 - 1)


class Cases:
    """Makes random cases for the tests, the same ones at every run."""

    def __init__(self, seed):
        self.numbers = draws(seed)

    def whole(self, low, high):
        return low + next(self.numbers) % (high - low + 1)

    def one(self, values):
        return values[self.whole(0, len(values) - 1)]


def check_arguments(test, function, arguments, wrong):
    """Test that the first wrong argument is told, whatever stands behind it.

    `arguments` are right ones; `wrong` has a pair of a name and wrong values for each argument.
    """
    test.assertEqual(len(arguments), len(wrong))
    function(*arguments)
    for index, (name, values) in enumerate(wrong):
        behind = [tuple(arguments[index + 1:]), tuple(rows[0] for _, rows in wrong[index + 1:])]
        for value, more in itertools.product(values, behind):
            given = (*arguments[:index], value, *more)
            before = copy.deepcopy(given)
            with test.subTest(function=function.__name__, given=given):
                with test.assertRaises(BadValue) as caught:
                    function(*given)
                test.assertEqual(caught.exception.name, name)
                test.assertEqual(shown(given), shown(before))


def check_pure(test, function, *arguments):
    """Call the function twice; test that the arguments stay, and that a returned list is new each time."""
    before = copy.deepcopy(arguments)
    first = function(*arguments)
    kept = copy.deepcopy(first)
    spoil(first)
    second = function(*arguments)
    test.assertEqual(second, kept)
    test.assertEqual(shown(arguments), shown(before))
    return second


def shown(value):
    """Return the value with what its objects have in place of them, to compare copies."""
    if isinstance(value, (list, tuple)):
        return [type(value), *map(shown, value)]
    if hasattr(value, "__dict__") and not isinstance(value, type) and not callable(value):
        return [type(value), *[(name, shown(part)) for name, part in sorted(vars(value).items())]]
    return value


def spoil(value):
    """Empty every list in a value."""
    if isinstance(value, (list, tuple)):
        for item in value:
            spoil(item)
    if isinstance(value, list):
        value.clear()
