"""Editors of levels: steps that are undone and redone, open groups, and journals."""

from alikeplay.checks import is_tuple, require
from alikeplay.edits import DEEPEST_GROUP, MOST_EDITS, edits_in, groups_in, made
from alikeplay.errors import TooLarge
from alikeplay.levels import is_level

MOST_STEPS = 60
MOST_CALLS = 200
# The calls that stand alone in a journal.
CALLS = (("undo",), ("redo",), ("begin",), ("finish",))


class Group:
    """An open group: the level and the calls before it, and the pairs of an edit and its inverse that are in it."""

    def __init__(self, before, calls):
        self.before = before
        self.calls = calls
        self.pairs = []

    def pair(self):
        """Return the group as an edit, and its inverse."""
        edits = tuple([edit for edit, _ in self.pairs])
        inverses = tuple([inverse for _, inverse in self.pairs[::-1]])
        return ("group", edits), ("group", inverses)


class Editor:
    """A level, with the steps that led to it."""

    def __init__(self, level):
        require(is_level(level), "level")
        self.now = level
        # Pairs of the edit and the inverse of each step, and how many of them stand.
        self.pairs = []
        self.at = 0
        self.groups = []
        self.calls = []

    def level(self):
        """Return the level."""
        return self.now

    def position(self):
        """Return the number of the steps that stand."""
        return self.at

    def steps(self):
        """Return the list of the edits of all steps, those that are undone included."""
        return [edit for edit, _ in self.pairs]

    def depth(self):
        """Return the number of open groups."""
        return len(self.groups)

    def make(self, edit):
        """Make the edit, and return the level."""
        level, inverse = made(self.now, edit)
        self._check_room(edit)
        self.now = level
        self._keep((edit, inverse))
        self.calls.append(("make", edit))
        return level

    def undo(self):
        """Take the last step back, and return the level, or None if that cannot be done."""
        if self.groups or self.at == 0:
            return None
        self.at -= 1
        self.now, _ = made(self.now, self.pairs[self.at][1])
        self.calls.append(("undo",))
        return self.now

    def redo(self):
        """Make the step behind the position, and return the level, or None if that cannot be done."""
        if self.groups or self.at == len(self.pairs):
            return None
        self.now, _ = made(self.now, self.pairs[self.at][0])
        self.at += 1
        self.calls.append(("redo",))
        return self.now

    def begin(self):
        """Open a group, and return the number of open groups."""
        self._check_room(("group", ()))
        self.groups.append(Group(self.now, list(self.calls)))
        self.calls.append(("begin",))
        return len(self.groups)

    def finish(self):
        """Close the innermost group, and return the number of open groups, or None if there was none."""
        if not self.groups:
            return None
        group = self.groups.pop()
        if group.pairs:
            self._keep(group.pair())
            self.calls.append(("finish",))
        else:
            self.calls = group.calls
        return len(self.groups)

    def cancel(self):
        """Take back and forget the innermost group, and return the level, or None if there was none."""
        if not self.groups:
            return None
        group = self.groups.pop()
        self.now = group.before
        self.calls = group.calls
        return self.now

    def journal(self):
        """Return the list of the calls that did something."""
        return list(self.calls)

    def _check_room(self, edit):
        """Raise TooLarge if there is no room for a further edit."""
        # Behind the last step no group can be open, and without groups every edit is small enough.
        if self.at == MOST_STEPS:
            raise TooLarge("steps")
        if len(self.groups) + groups_in(edit) > DEEPEST_GROUP:
            raise TooLarge("groups")
        if self._open_edits() + edits_in(edit) > MOST_EDITS:
            raise TooLarge("edits")

    def _open_edits(self):
        """Return the number of the edits in the open groups, themselves included."""
        return sum([1 + sum([edits_in(edit) for edit, _ in group.pairs]) for group in self.groups])

    def _keep(self, pair):
        """Put an edit that was made into the innermost open group, or behind the position."""
        if self.groups:
            self.groups[-1].pairs.append(pair)
        else:
            self.pairs = self.pairs[:self.at] + [pair]
            self.at += 1


def replay(level, journal):
    """Return a new editor behind the calls of the journal."""
    require(is_level(level), "level")
    is_list = isinstance(journal, list) and len(journal) <= MOST_CALLS
    require(is_list and all(_is_call(call) for call in journal), "journal")
    editor = Editor(level)
    for call in journal:
        _repeat(editor, call)
    return editor


def _is_call(value):
    return value in CALLS or is_tuple(value, 2) and value[0] == "make"


def _repeat(editor, call):
    if call[0] == "make":
        editor.make(call[1])
    elif call[0] == "undo":
        editor.undo()
    elif call[0] == "redo":
        editor.redo()
    elif call[0] == "begin":
        editor.begin()
    else:
        editor.finish()
