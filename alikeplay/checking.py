"""Scripts that are checked: what can come in a text, the tree of a text, and which trees are valid."""

from alikeplay.checks import require
from alikeplay.commands import Commands, is_commands
from alikeplay.errors import BadScript
from alikeplay.grammar import Place
from alikeplay.reading import Reader
from alikeplay.scanning import SIGNS, Scanner, is_text
from alikeplay.trees import TreeCheck

# What a token is in the grammar; the others are words themselves.
KINDS = {"name": "a name", "number": "a number", "end": "the end"}


def next_tokens(text):
    """Return the list of what can come behind the tokens of the beginning of a text."""
    require(is_text(text), "text")
    tokens = Scanner(text).tokens()
    return [_told(word) for word in _place_behind(tokens[:-1]).words()]


def _place_behind(tokens):
    """Return the place in the grammar behind the tokens."""
    place = Place()
    for kind, characters, line, column in tokens:
        word = KINDS.get(kind, characters)
        words = place.words()
        if word not in words:
            raise BadScript(line, column, "expected " + _joined([_told(known) for known in words]))
        place.take(word)
    return place


def _told(word):
    return f'"{word}"' if word in SIGNS else word


def _joined(words):
    if len(words) == 1:
        return words[0]
    return ", ".join(words[:-1]) + " or " + words[-1]


def read_script(text, commands):
    """Return the tree of a text that asks these commands."""
    require(is_text(text), "text")
    require(is_commands(commands), "commands")
    tokens = Scanner(text).tokens()
    _place_behind(tokens)
    return Reader(tokens, commands).script()


def is_tree(value, commands):
    """Tell whether the value is a tree that is valid for the commands."""
    require(is_commands(commands), "commands")
    return TreeCheck(Commands(commands, False)).is_script(value)
