"""Points 107, 108, 111 and 112: editors, their groups and their journals."""

import unittest

from alikeplay.editor import Editor, replay
from alikeplay.errors import BadValue, PlayError, TooLarge
from helpers import NO_TUPLES, Cases, check_arguments, shown
from levels import EMPTY, LEVEL, NO_LEVELS, SOME_NO_LEVELS, slow_made, some_edit, some_level

NOTHING = ("group", ())
NO_EDITS = (None, 5, True, (), "cells", ("cells",), ("rest", 1), ["cells", ((0, 0, "#"),)], ("drop", "nobody"), ("cells", ((9, 9, "#"),)),
            ("group", (("drop", "mob"), ("drop", "mob"))), ("group", (("group", (("group", (NOTHING,)),)),)),
            ("group", (NOTHING,) * 60))


def cell(index, sign="#"):
    """Return an edit of one of the first cells."""
    return "cells", ((index % 3, 0, sign),)


def group(*edits):
    return "group", edits


def with_cells(cells):
    return (3, 2, cells), *LEVEL[1:]


def told(editor):
    """Ask an editor for all that it tells."""
    return {"level": editor.level(), "position": editor.position(), "steps": editor.steps(), "depth": editor.depth(),
            "journal": editor.journal()}


def deep(edit):
    return 1 + max(map(deep, edit[1]), default=0) if edit[0] == "group" else 0


def many(edit):
    return 1 + sum(map(many, edit[1])) if edit[0] == "group" else 1


class SlowEditor:
    """Keeps the first level and the journal alone, and finds everything out from them, without inverses."""

    def __init__(self, level):
        self.first = level
        self.calls = []
        self.read()

    def read(self):
        self.steps, self.position, self.groups, self.begun = [], 0, [], []
        for index, call in enumerate(self.calls):
            if call[0] == "make":
                self.add(call[1])
            elif call[0] == "begin":
                self.groups.append([])
                self.begun.append(index)
            elif call[0] == "finish":
                edits = self.groups.pop()
                self.begun.pop()
                self.add(("group", tuple(edits)))
            else:
                self.position += {"undo": -1, "redo": 1}[call[0]]

    def add(self, edit):
        if self.groups:
            self.groups[-1].append(edit)
        else:
            self.steps[self.position:] = [edit]
            self.position += 1

    def level(self):
        level = self.first
        for edit in self.steps[:self.position] + [edit for edits in self.groups for edit in edits]:
            level, _ = slow_made(level, edit)
        return level

    def told(self):
        return {"level": self.level(), "position": self.position, "steps": self.steps, "depth": len(self.groups), "journal": self.calls}

    def problem(self, edit):
        """Return what is raised when the edit is made, or None."""
        if slow_made(self.level(), edit) is None or deep(edit) > 3 or many(edit) > 60:
            return "edit"
        return self.room(edit)

    def room(self, edit):
        if not self.groups:
            return "steps" if self.position == 60 else None
        for edits in self.groups[::-1]:
            edit = ("group", (*edits, edit))
        return "groups" if deep(edit) > 3 else "edits" if many(edit) > 60 else None

    def call(self, word, edit=None):
        """Make a call; return what it returns or raises."""
        problem = self.problem(edit) if word == "make" else self.room(NOTHING) if word == "begin" else None
        if problem is not None:
            return problem
        is_done = {"make": True, "begin": True, "undo": not self.groups and self.position > 0, "finish": bool(self.groups),
                   "redo": not self.groups and self.position < len(self.steps), "cancel": bool(self.groups)}[word]
        if not is_done:
            return None
        if word == "cancel" or word == "finish" and not self.groups[-1]:
            del self.calls[self.begun[-1]:]
        else:
            self.calls.append((word, edit) if word == "make" else (word,))
        self.read()
        return len(self.groups) if word in ("begin", "finish") else self.level()


class EditorCase(unittest.TestCase):
    def check_fails(self, error, name, call, *arguments):
        with self.assertRaises(PlayError) as caught:
            call(*arguments)
        self.assertIs(type(caught.exception), error)
        self.assertEqual(vars(caught.exception), {"name" if error is BadValue else "what": name})

    def check_refused(self, editor, error, name, *calls):
        """Test that calls raise an error and change nothing."""
        before, kept = told(editor), shown(editor)
        for word, *arguments in calls:
            self.check_fails(error, name, getattr(editor, word), *arguments)
        self.assertEqual((told(editor), shown(editor)), (before, kept))

    def check_nothing(self, editor, *words):
        """Test that calls return None and do nothing."""
        before, kept = told(editor), shown(editor)
        for word in words:
            self.assertIsNone(getattr(editor, word)())
        self.assertEqual((told(editor), shown(editor)), (before, kept))

    def check_told(self, editor, cells, position, steps, depth, journal):
        self.assertEqual(told(editor), {"level": with_cells(cells), "position": position, "steps": steps, "depth": depth, "journal": journal})
        again = replay(LEVEL, journal)
        self.assertEqual(told(again), told(editor))


class StepTests(EditorCase):
    def test_a_new_editor(self):
        editor = Editor(LEVEL)
        self.check_told(editor, "...###", 0, [], 0, [])
        self.check_nothing(editor, "undo", "redo", "finish", "cancel")

    def test_undo_and_redo(self):
        editor = Editor(LEVEL)
        self.assertEqual(editor.make(cell(0)), with_cells("#..###"))
        self.assertEqual(editor.make(cell(1, "~")), with_cells("#~.###"))
        self.check_nothing(editor, "redo")
        self.assertEqual(editor.undo(), with_cells("#..###"))
        self.check_told(editor, "#..###", 1, [cell(0), cell(1, "~")], 0, [("make", cell(0)), ("make", cell(1, "~")), ("undo",)])
        self.assertEqual(editor.undo(), LEVEL)
        self.check_nothing(editor, "undo")
        self.assertEqual(editor.redo(), with_cells("#..###"))
        self.assertEqual(editor.redo(), with_cells("#~.###"))
        self.check_nothing(editor, "redo")
        self.check_told(editor, "#~.###", 2, [cell(0), cell(1, "~")], 0,
                        [("make", cell(0)), ("make", cell(1, "~")), ("undo",), ("undo",), ("redo",), ("redo",)])

    def test_edits_behind_undone_steps(self):
        editor = Editor(LEVEL)
        for index in range(3):
            editor.make(cell(index))
        editor.undo(), editor.undo()
        self.assertEqual((editor.steps(), editor.position()), ([cell(0), cell(1), cell(2)], 1))
        self.assertEqual(editor.make(cell(2, "^")), with_cells("#.^###"))
        self.assertEqual((editor.steps(), editor.position()), ([cell(0), cell(2, "^")], 2))
        self.check_nothing(editor, "redo")
        editor.undo(), editor.undo()
        editor.make(cell(0, "~"))
        self.assertEqual((editor.steps(), editor.position(), editor.level()), ([cell(0, "~")], 1, with_cells("~..###")))

    def test_an_edit_that_changes_nothing_is_a_step(self):
        editor = Editor(LEVEL)
        editor.make(cell(0, "."))
        editor.make(NOTHING)
        self.check_told(editor, "...###", 2, [cell(0, "."), NOTHING], 0, [("make", cell(0, ".")), ("make", NOTHING)])
        self.assertEqual((editor.undo(), editor.undo(), editor.undo()), (LEVEL, LEVEL, None))

    def test_sixty_steps(self):
        editor = Editor(LEVEL)
        for index in range(60):
            editor.make(cell(index, ".#^~"[index % 4]))
        self.check_refused(editor, TooLarge, "steps", ("make", cell(0)), ("begin",), ("make", NOTHING))
        self.check_refused(editor, BadValue, "edit", *[("make", edit) for edit in NO_EDITS])
        editor.undo()
        self.assertEqual((editor.position(), len(editor.steps())), (59, 60))
        self.assertEqual(editor.begin(), 1)
        editor.make(cell(1)), editor.make(cell(2))
        self.assertEqual((editor.finish(), editor.position(), len(editor.steps())), (0, 60, 60))
        self.assertEqual(editor.steps()[59], group(cell(1), cell(2)))
        self.check_refused(editor, TooLarge, "steps", ("make", cell(0)), ("begin",))
        for _ in range(60):
            self.assertIsNotNone(editor.undo())
        self.check_nothing(editor, "undo")
        self.assertEqual(editor.level(), LEVEL)
        for _ in range(60):
            self.assertIsNotNone(editor.redo())
        self.check_refused(editor, TooLarge, "steps", ("make", cell(0)), ("begin",))

    def test_lists_are_new(self):
        editor = Editor(LEVEL)
        editor.make(cell(0))
        editor.steps().clear()
        editor.journal().clear()
        self.check_told(editor, "#..###", 1, [cell(0)], 0, [("make", cell(0))])

    def test_two_editors(self):
        first, second = Editor(LEVEL), Editor(LEVEL)
        first.make(cell(0))
        first.begin()
        self.check_told(second, "...###", 0, [], 0, [])


class GroupTests(EditorCase):
    def test_a_group_is_one_step(self):
        editor = Editor(LEVEL)
        editor.make(cell(0))
        self.assertEqual((editor.begin(), editor.depth()), (1, 1))
        self.assertEqual(editor.make(cell(1)), with_cells("##.###"))
        self.check_told(editor, "##.###", 1, [cell(0)], 1, [("make", cell(0)), ("begin",), ("make", cell(1))])
        self.check_nothing(editor, "undo", "redo")
        self.assertEqual(editor.make(("flood", 0, 0, "~")), with_cells("~~.~~~"))
        self.assertEqual((editor.finish(), editor.depth()), (0, 0))
        edit = group(cell(1), ("flood", 0, 0, "~"))
        self.check_told(editor, "~~.~~~", 2, [cell(0), edit], 0,
                        [("make", cell(0)), ("begin",), ("make", cell(1)), ("make", ("flood", 0, 0, "~")), ("finish",)])
        self.assertEqual((editor.undo(), editor.redo(), editor.undo(), editor.undo()),
                         (with_cells("#..###"), with_cells("~~.~~~"), with_cells("#..###"), LEVEL))

    def test_groups_in_groups(self):
        editor = Editor(LEVEL)
        self.assertEqual([editor.begin(), editor.begin(), editor.begin()], [1, 2, 3])
        self.check_refused(editor, TooLarge, "groups", ("begin",), ("make", NOTHING))
        editor.make(cell(0))
        self.assertEqual(editor.finish(), 2)
        editor.make(cell(1))
        editor.make(group(cell(0, "~")))
        self.check_refused(editor, TooLarge, "groups", ("make", group(NOTHING)))
        self.assertEqual((editor.finish(), editor.depth(), editor.position()), (1, 1, 0))
        self.assertEqual([editor.begin(), editor.begin()], [2, 3])
        editor.make(cell(2))
        self.assertEqual([editor.finish(), editor.finish(), editor.finish(), editor.finish()], [2, 1, 0, None])
        edit = group(group(group(cell(0)), cell(1), group(cell(0, "~"))), group(group(cell(2))))
        self.assertEqual((editor.steps(), editor.level()), ([edit], with_cells("~#####")))
        self.assertEqual((editor.undo(), editor.redo()), (LEVEL, with_cells("~#####")))
        self.assertEqual(told(replay(LEVEL, editor.journal())), told(editor))

    def test_steps_behind_the_position(self):
        """They are gone when the group is finished, not before, and not if nothing comes of it."""
        editor = Editor(LEVEL)
        for index in range(3):
            editor.make(cell(index))
        editor.undo(), editor.undo()
        before = told(editor)
        editor.begin()
        editor.make(cell(1, "~"))
        self.assertEqual((editor.steps(), editor.position()), ([cell(0), cell(1), cell(2)], 1))
        self.check_nothing(editor, "redo", "undo")
        self.assertEqual((editor.cancel(), told(editor)), (with_cells("#..###"), before))
        editor.begin()
        self.assertEqual((editor.finish(), told(editor)), (0, before))
        self.assertEqual(editor.redo(), with_cells("##.###"))
        editor.begin()
        editor.make(cell(1, "~"))
        editor.begin()
        editor.make(cell(2, "~"))
        self.assertEqual((editor.finish(), editor.steps()), (1, [cell(0), cell(1), cell(2)]))
        editor.finish()
        self.assertEqual((editor.steps(), editor.position()), ([cell(0), cell(1), group(cell(1, "~"), group(cell(2, "~")))], 3))
        self.check_nothing(editor, "redo")

    def test_groups_without_edits(self):
        editor = Editor(LEVEL)
        for depth in (1, 2, 3):
            for _ in range(depth):
                editor.begin()
            self.assertEqual([editor.finish() for _ in range(depth)], list(range(depth))[::-1])
            self.check_told(editor, "...###", 0, [], 0, [])
        editor.begin()
        editor.begin()
        self.check_told(editor, "...###", 0, [], 2, [("begin",), ("begin",)])
        self.assertEqual(editor.finish(), 1)
        self.check_told(editor, "...###", 0, [], 1, [("begin",)])
        editor.make(cell(0))
        editor.begin()
        editor.finish()
        editor.finish()
        self.check_told(editor, "#..###", 1, [group(cell(0))], 0, [("begin",), ("make", cell(0)), ("finish",)])
        # An empty group that is made is an edit.
        editor.begin()
        editor.make(NOTHING)
        editor.finish()
        self.assertEqual(editor.steps(), [group(cell(0)), group(NOTHING)])

    def test_cancelled_groups(self):
        editor = Editor(LEVEL)
        editor.make(cell(0))
        editor.begin()
        editor.make(("put", ("a", "b", 0, 0, ())))
        editor.make(("name", "a", "c"))
        editor.begin()
        editor.make(("drop", "c"))
        editor.finish()
        editor.begin()
        editor.make(("size", 1, 1, "."))
        self.assertEqual((editor.cancel()[0], editor.depth()), (with_cells("#..###")[0], 1))
        self.assertEqual(editor.journal(), [("make", cell(0)), ("begin",), ("make", ("put", ("a", "b", 0, 0, ()))), ("make", ("name", "a", "c")),
                                            ("begin",), ("make", ("drop", "c")), ("finish",)])
        self.assertEqual(told(replay(LEVEL, editor.journal())), told(editor))
        self.assertEqual(editor.cancel(), with_cells("#..###"))
        self.check_told(editor, "#..###", 1, [cell(0)], 0, [("make", cell(0))])
        self.check_nothing(editor, "cancel", "finish")
        editor.begin()
        self.assertEqual((editor.cancel(), editor.undo()), (with_cells("#..###"), LEVEL))

    def test_a_group_with_cancelled_groups_alone(self):
        editor = Editor(LEVEL)
        editor.begin()
        editor.begin()
        editor.make(cell(0))
        self.assertEqual((editor.cancel(), editor.finish()), (LEVEL, 0))
        self.check_told(editor, "...###", 0, [], 0, [])

    def test_sixty_edits(self):
        editor = Editor(LEVEL)
        editor.begin()
        for index in range(58):
            editor.make(cell(index, ".#^~"[index % 4]))
        self.check_refused(editor, TooLarge, "edits", ("make", group(cell(0))))
        self.assertEqual(editor.begin(), 2)
        self.check_refused(editor, TooLarge, "edits", ("make", cell(0)), ("begin",), ("make", NOTHING))
        self.assertEqual(editor.finish(), 1)
        self.assertIsNotNone(editor.make(NOTHING))
        self.check_refused(editor, TooLarge, "edits", ("make", cell(0)), ("begin",), ("make", NOTHING))
        self.check_refused(editor, BadValue, "edit", *[("make", edit) for edit in NO_EDITS])
        self.assertEqual(editor.finish(), 0)
        self.assertEqual((many(editor.steps()[0]), editor.undo()), (60, LEVEL))
        self.assertEqual(editor.redo(), editor.level())

    def test_sixty_edits_in_many_groups(self):
        editor = Editor(LEVEL)
        editor.begin()
        editor.make(group(*[cell(index) for index in range(19)]))
        editor.begin()
        editor.make(group(*[cell(index) for index in range(18)]))
        editor.begin()
        for index in range(17):
            editor.make(cell(index))
        editor.finish()
        self.check_refused(editor, TooLarge, "groups", ("make", group(NOTHING)))
        self.assertEqual(editor.begin(), 3)
        self.check_refused(editor, TooLarge, "edits", ("make", cell(0)))
        # Too deep comes before too many.
        self.check_refused(editor, TooLarge, "groups", ("make", group(cell(0))), ("begin",))
        editor.finish()
        editor.make(cell(0))
        self.check_refused(editor, TooLarge, "edits", ("make", cell(0)), ("begin",))
        self.assertEqual((editor.finish(), editor.finish(), many(editor.steps()[0])), (1, 0, 60))

    def test_deep_edits_in_open_groups(self):
        editor = Editor(LEVEL)
        three, two, one = group(group(group(cell(0)))), group(group(cell(1))), group(cell(2))
        editor.make(three)
        editor.begin()
        self.check_refused(editor, TooLarge, "groups", ("make", three))
        editor.make(two)
        editor.begin()
        self.check_refused(editor, TooLarge, "groups", ("make", two))
        editor.make(one)
        editor.begin()
        self.check_refused(editor, TooLarge, "groups", ("make", one))
        editor.make(cell(0, "^"))
        for _ in range(3):
            editor.finish()
        self.assertEqual(editor.steps(), [three, group(two, group(one, group(cell(0, "^"))))])

    def test_sixty_groups(self):
        """A group that was begun at the position 59 can be finished."""
        editor = Editor(LEVEL)
        for index in range(60):
            editor.begin()
            editor.make(cell(index))
            self.assertEqual(editor.finish(), 0)
        self.assertEqual(editor.position(), 60)
        self.check_refused(editor, TooLarge, "steps", ("begin",))
        self.assertEqual(told(replay(LEVEL, editor.journal())), told(editor))


class JournalTests(EditorCase):
    def test_what_does_nothing_leaves_nothing(self):
        editor = Editor(LEVEL)
        for word in ("undo", "redo", "finish", "cancel", "begin", "undo", "redo", "cancel", "begin", "finish"):
            getattr(editor, word)()
        for edit in NO_EDITS:
            self.check_fails(BadValue, "edit", editor.make, edit)
        self.assertEqual(editor.journal(), [])

    def test_replay_does_what_nothing_comes_of(self):
        journal = [("undo",), ("redo",), ("finish",), ("begin",), ("undo",), ("redo",), ("finish",), ("make", cell(0)), ("redo",)]
        editor = replay(LEVEL, journal)
        self.check_told(editor, "#..###", 1, [cell(0)], 0, [("make", cell(0))])
        self.assertEqual(len(journal), 9)

    def test_replay_raises_what_calls_raise(self):
        for edit in NO_EDITS:
            self.check_fails(BadValue, "edit", replay, LEVEL, [("make", cell(0)), ("make", edit)])
        self.check_fails(TooLarge, "groups", replay, LEVEL, [("begin",)] * 4)
        self.check_fails(TooLarge, "groups", replay, LEVEL, [("begin",)] * 3 + [("make", NOTHING)])
        self.check_fails(TooLarge, "edits", replay, LEVEL, [("begin",)] + [("make", cell(0))] * 60)
        self.check_fails(TooLarge, "steps", replay, LEVEL, [("make", cell(0))] * 61)
        self.check_fails(TooLarge, "steps", replay, LEVEL, [("make", cell(0))] * 60 + [("begin",)])

    def test_bounds(self):
        journal = [("make", cell(0)), ("undo",)] * 100
        editor = replay(LEVEL, journal)
        self.assertEqual(told(editor), {"level": LEVEL, "position": 0, "steps": [cell(0)], "depth": 0, "journal": journal})
        # A journal can be longer than one that is replayed.
        editor.make(cell(1))
        self.assertEqual(len(editor.journal()), 201)
        self.check_fails(BadValue, "journal", replay, LEVEL, editor.journal())

    def test_the_journal_is_not_kept(self):
        journal = [("make", cell(0))]
        editor = replay(LEVEL, journal)
        journal.append(("undo",))
        editor.make(cell(1))
        self.assertEqual((journal, editor.journal()), ([("make", cell(0)), ("undo",)], [("make", cell(0)), ("make", cell(1))]))

    def test_arguments(self):
        check_arguments(self, Editor, (LEVEL,), (("level", NO_LEVELS),))
        calls = (*NO_TUPLES, (), ("make",), ("make", cell(0), 1), ("undo", 1), ("redo", None), ("begin", ()), ("finish", 0), ("cancel",), ("undone",),
                 ["undo"], ["make", cell(0)], ("Undo",), (("undo",),), ("steps",), (5,), (None, cell(0)))
        journals = (None, True, 5, "undo", (), (("undo",),), {}, [("undo",)] * 201, *[[call] for call in calls],
                    *[[("make", None), call] for call in calls], *[[("begin",)] * 4 + [call] for call in calls])
        check_arguments(self, replay, (LEVEL, [("undo",)] * 200), (("level", SOME_NO_LEVELS), ("journal", journals)))

    def test_arguments_of_make(self):
        for prepare in ((), ("begin",), ("begin", "begin", "begin")):
            editor = Editor(LEVEL)
            editor.make(cell(0))
            for word in prepare:
                getattr(editor, word)()
            self.check_refused(editor, BadValue, "edit", *[("make", edit) for edit in NO_EDITS])


class ModelTests(EditorCase):
    def called(self, editor, word, *arguments):
        try:
            return getattr(editor, word)(*arguments)
        except BadValue as problem:
            return problem.name
        except TooLarge as problem:
            return problem.what

    def check_walk(self, cases, words, turns):
        level = some_level(cases, 3)
        editor, slow = Editor(level), SlowEditor(level)
        found = {}
        for turn in range(turns):
            word = cases.one(words)
            edit = some_edit(cases, slow.level()) if word == "make" and cases.whole(0, 2) == 0 else cell(3, ".#^~"[turn % 4])
            arguments = (edit,) if word == "make" else ()
            answer = self.called(editor, word, *arguments)
            self.assertEqual(answer, slow.call(word, *arguments), (word, arguments))
            self.assertEqual(told(editor), slow.told())
            found[word, answer if isinstance(answer, str) or answer is None else True] = True
            if turn % 10 == 9 and len(editor.journal()) <= 200:
                self.assertEqual(told(replay(level, editor.journal())), told(editor))
        return found

    def test_drawn_calls(self):
        cases = Cases(141)
        found = {}
        for _ in range(60):
            found.update(self.check_walk(cases, ("make",) * 6 + ("undo", "undo", "redo", "begin", "begin", "finish", "finish", "cancel"), 60))
        self.assertEqual({word for word, answer in found if answer is None}, {"undo", "redo", "finish", "cancel"})
        self.assertLessEqual({("make", "edit"), ("make", "groups"), ("begin", "groups")}, set(found))

    def test_many_edits_in_groups(self):
        cases = Cases(142)
        found = {}
        for _ in range(6):
            found.update(self.check_walk(cases, ("make",) * 14 + ("begin", "begin", "finish"), 120))
        self.assertIn(("make", "edits"), found)

    def test_many_steps(self):
        cases = Cases(143)
        found = {}
        for _ in range(3):
            found.update(self.check_walk(cases, ("make",) * 20 + ("undo", "redo", "begin", "finish", "finish"), 150))
        self.assertLessEqual({("make", "steps"), ("begin", "steps")}, set(found))

    def test_an_empty_level(self):
        editor = Editor(EMPTY)
        self.assertEqual(editor.make(("size", 2, 1, "^")), ((2, 1, ".^"), (), ()))
        self.assertEqual((editor.undo(), editor.redo()), (EMPTY, ((2, 1, ".^"), (), ())))


if __name__ == "__main__":
    unittest.main()
