"""The form of a game: its grid, its kinds and its first things."""

from alikeplay.asking import COMMANDS
from alikeplay.checks import is_tuple
from alikeplay.codes import is_sound
from alikeplay.commands import Commands
from alikeplay.errors import BadGame
from alikeplay.grids import is_grid
from alikeplay.names import is_name
from alikeplay.places import is_allowed
from alikeplay.whole import is_between, is_whole

MOST_KINDS = 8
MOST_FIRST_THINGS = 20
LONGEST_SIDE = 64
GREATEST_WEIGHT = 8


def check_game(grid, kinds, things):
    """Raise BadGame for the first problem of a game."""
    _require(is_grid(grid), ("grid",), "grid")
    _require(isinstance(kinds, tuple), ("kinds",), "form")
    _require(1 <= len(kinds) <= MOST_KINDS, ("kinds",), "many")
    for index, kind in enumerate(kinds):
        _check_kind(kind, kinds[:index], ("kinds", index))
    _require(isinstance(things, tuple), ("things",), "form")
    _require(len(things) <= MOST_FIRST_THINGS, ("things",), "many")
    for index, thing in enumerate(things):
        _check_thing(grid, kinds, thing, ("things", index))


def _require(holds, where, why):
    if not holds:
        raise BadGame(where, why)


def _check_kind(kind, before, where):
    """Check a kind that stands behind others."""
    _require(is_tuple(kind, 5), where, "form")
    name, width, height, weight, code = kind
    _require(is_name(name), where, "name")
    _require(len(before) == 0 or before[-1][0] < name, where, "order")
    _require(is_between(width, 1, LONGEST_SIDE) and is_between(height, 1, LONGEST_SIDE), where, "size")
    _require(weight is None or is_between(weight, 0, GREATEST_WEIGHT), where, "weight")
    _require(code is None or is_sound(code, Commands(COMMANDS, False)), where, "code")


def _check_thing(grid, kinds, thing, where):
    _require(is_tuple(thing, 3) and all(is_whole(number) for number in thing), where, "form")
    index, x, y = thing
    _require(is_between(index, 0, len(kinds) - 1), where, "kind")
    _require(is_allowed(grid, kinds[index], x, y), where, "place")
