"""Points 60, 62 to 64 and 66 to 69: machines."""

import unittest

from alikeplay.checking import read_script
from alikeplay.coding import coded, heights, short
from alikeplay.machines import answered, begun, is_machine, run
from codes import CODE, LAST, of_body, some_codes
from helpers import NO_INTEGERS, NO_TUPLES, Cases, check_arguments, check_pure
from scripts import COMMANDS, Walk, part_at, parts, replaced, some_trees, wrap
from test_coding import wrong_codes

END = ("end",)
LEAST = -LAST - 1
ANSWERS = (1, 0, -3, 2 ** 31, 7, -2 ** 31 - 5, 2, 3)


def code_of(text, commands=COMMANDS):
    return coded(read_script(text, commands))


def one(code, machine=None, budget=1000):
    return run(code, begun(code) if machine is None else machine, budget)


def told(code, answers, many, budgets):
    """Run a code, and return its events with the variables; `budgets` yields the budget of each part of the run."""
    machine, found, index = begun(code), [], 0
    for budget in budgets:
        machine, event = run(code, machine, budget)
        assert is_machine(code, machine)
        if event == ("paused",):
            continue
        found.append((event, machine[0]))
        if len(found) == many or event[0] in ("done", "stopped"):
            break
        if event[0] == "asks":
            machine = answered(machine, answers[index % len(answers)])
            index += 1
    return found


def states(code, many, answers=ANSWERS):
    """Return the machines of the first instructions of a run."""
    machine, found = begun(code), [begun(code)]
    for k in range(many):
        machine, event = run(code, machine, 1)
        found.append(machine)
        if event[0] == "asks":
            machine = answered(machine, answers[k % len(answers)])
            found.append(machine)
        if event[0] in ("done", "stopped"):
            break
    return found


class InstructionTests(unittest.TestCase):
    def result(self, *rows):
        """Return what rows of instructions that lay an integer put into the variable, or the event."""
        machine, event = one(of_body(*rows, ("put", 0), END))
        return machine[0][0] if event == ("done",) else event

    def test_two_operands(self):
        for word, a, b, wanted in (
            ("plus", 2, 3, 5), ("plus", LAST, 1, LEAST), ("plus", LEAST, -1, LAST), ("minus", 2, 3, -1),
            ("minus", LEAST, 1, LAST), ("times", -7, 6, -42), ("times", 65536, 65536, 0), ("times", 65536, 32768, LEAST),
            ("times", LAST, LAST, 1), ("div", 7, 2, 3), ("div", -7, 2, -4), ("div", 7, -2, -4), ("div", -7, -2, 3),
            ("div", LEAST, -1, LEAST), ("mod", 7, 2, 1), ("mod", -7, 2, 1), ("mod", 7, -2, -1), ("mod", -7, -2, -1),
            ("mod", LEAST, -1, 0), ("mod", LEAST, LAST, LAST - 1), ("div", 0, 5, 0), ("mod", 0, 5, 0),
            ("eq", 1, 1, 1), ("eq", 1, 2, 0), ("ne", 1, 1, 0), ("ne", 1, 2, 1), ("lt", 1, 2, 1), ("lt", 2, 2, 0),
            ("lt", 3, 2, 0), ("le", 1, 2, 1), ("le", 2, 2, 1), ("le", 3, 2, 0), ("gt", 1, 2, 0), ("gt", 2, 2, 0),
            ("gt", 3, 2, 1), ("ge", 1, 2, 0), ("ge", 2, 2, 1), ("ge", 3, 2, 1), ("lt", LEAST, LAST, 1),
        ):
            self.assertEqual(self.result(("int", a), ("int", b), (word,)), wanted, (word, a, b))

    def test_one_operand(self):
        for word, a, wanted in (("neg", 5, -5), ("neg", LEAST, LEAST), ("neg", 0, 0), ("not", 0, 1), ("not", 5, 0),
                                ("not", -1, 0), ("truth", 0, 0), ("truth", 5, 1), ("truth", LEAST, 1)):
            self.assertEqual(self.result(("int", a), (word,)), wanted)

    def test_values(self):
        self.assertEqual(self.result(("int", 4), ("put", 0), ("get", 0), ("get", 0), ("plus",)), 8)
        self.assertEqual(self.result(("int", 4), ("int", 5), ("drop",)), 4)
        code = (2, ((0, 0, (("int", 1), ("int", 2), ("call", 1), ("put", 1), END)),
                    (2, 3, (("load", 2), ("load", 1), ("store", 2), ("load", 0), ("int", 10), ("times",), ("plus",),
                            ("load", 2), ("int", 100), ("times",), ("plus",), ("return",)))))
        self.assertEqual(one(code), (((0, 210), (), "done", None), ("done",)))

    def test_jumps(self):
        for word, value, wanted in (("unless", 0, 9), ("unless", 1, 5), ("unless", -1, 5)):
            rows = (("int", value), (word, 4), ("int", 5), ("jump", 5), ("int", 9))
            self.assertEqual(self.result(*rows), wanted)
        for word, value, wanted in (("and", 0, 0), ("and", 3, 1), ("or", 0, 1), ("or", 3, 1), ("or", -3, 1)):
            self.assertEqual(self.result(("int", value), (word, 4), ("int", 7), ("truth",)), wanted)
        self.assertEqual(self.result(("int", 3), ("or", 3), ("int", 7)), 1)
        self.assertEqual(self.result(("int", 0), ("or", 3), ("int", 7)), 7)
        self.assertEqual(self.result(("int", 3), ("and", 3), ("int", 7)), 7)
        self.assertEqual(self.result(("int", 0), ("and", 3), ("int", 7)), 0)

    def test_division_by_zero(self):
        for word in ("div", "mod"):
            self.assertEqual(self.result(("int", 7), ("int", 0), (word,)), ("stopped", "division"))
            machine, event = one(of_body(("int", 5), ("put", 0), ("int", 0), ("int", 0), (word,), ("drop",), END))
            self.assertEqual((machine, event), (((5,), (), "division", None), ("stopped", "division")))
        self.assertEqual(one(code_of("func f() { return 1 mod 0; } do f();"))[1], ("stopped", "division"))

    def test_calls_and_frames(self):
        code = code_of("var a; func f(p, q) { var r; r = p - q; return r; } a = 1 + f(7, 2);")
        found = [machine[1] for machine in states(code, 12)]
        self.assertEqual(found[3], ((0, 3, (), (1, 7, 2)),))
        self.assertEqual(found[4], ((0, 4, (), (1,)), (1, 0, (7, 2, 0), ())))
        self.assertEqual(found[8], ((0, 4, (), (1,)), (1, 4, (7, 2, 5), ())))
        self.assertEqual(found[10], ((0, 4, (), (1, 5)),))
        self.assertEqual(one(code)[0][0], (6,))

    def test_sixteen_frames(self):
        text = "var n; func f(k) {{ n = k; if k < {} {{ do f(k + 1); }} return 3; }} do f(2);"
        self.assertEqual(one(code_of(text.format(16))), (((16,), (), "done", None), ("done",)))
        self.assertEqual(one(code_of(text.format(17))), (((16,), (), "deep", None), ("stopped", "deep")))
        code = code_of("func f() { return f(); } do f();")
        machine, event = run(code, begun(code), 15)
        self.assertEqual((len(machine[1]), event), (16, ("paused",)))
        self.assertIs(is_machine(code, machine), True)
        self.assertEqual(run(code, machine, 1), (((), (), "deep", None), ("stopped", "deep")))

    def test_a_function_without_return(self):
        self.assertEqual(one(code_of("var a; func f() { } a = 4; a = f();"))[0][0], (0,))


class EventTests(unittest.TestCase):
    def test_document(self):
        code = code_of("var n; while n < 2 { n = n + @roll(6); wait; }", [("roll", 1)])
        machine, event = run(code, begun(code), 5)
        self.assertEqual(event, ("paused",))
        self.assertEqual(machine, ((0,), ((0, 5, (), (0,)),), "ready", None))
        machine, event = run(code, machine, 100)
        self.assertEqual(event, ("asks", "roll", (6,)))
        machine, event = run(code, answered(machine, 3), 100)
        self.assertEqual(event, ("waits",))
        self.assertEqual(run(code, machine, 100), (((3,), (), "done", None), ("done",)))

    def test_begun(self):
        self.assertEqual(begun(CODE), ((0,), ((0, 0, (), ()),), "ready", None))
        self.assertEqual(begun((3, ((0, 0, (END,)),))), ((0, 0, 0), ((0, 0, (), ()),), "ready", None))

    def test_asking(self):
        code = code_of("var a; a = 5 + @near(1, 2);")
        machine, event = one(code)
        self.assertEqual(event, ("asks", "near", (1, 2)))
        self.assertEqual(machine, ((0,), ((0, 4, (), (5,)),), "asking", ("near", (1, 2))))
        for budget in (1, 100000):
            self.assertEqual(run(code, machine, budget), (machine, event))
        self.assertEqual(answered(machine, 7), ((0,), ((0, 4, (), (5, 7)),), "ready", None))
        self.assertEqual(one(code, answered(machine, 7))[0][0], (12,))
        for answer in (2 ** 31, -2 ** 31 - 1, 2 ** 40 + 3, 2 ** 200, LAST, LEAST):
            self.assertEqual(answered(machine, answer)[1][0][3], (5, wrap(answer)))
        self.assertEqual(one(code_of("do @me();"))[1], ("asks", "me", ()))
        code = code_of("var a; func f(p) { return p + @x(3); } a = f(1);")
        self.assertEqual(answered(one(code)[0], 9)[1], ((0, 2, (), ()), (1, 3, (1,), (1, 9))))

    def test_budgets(self):
        """The event comes with the instruction that tells it, and not before."""
        for text, many, event in (
            ("wait; wait;", 1, ("waits",)), ("do 1; wait;", 3, ("waits",)), ("", 1, ("done",)), ("do 1;", 3, ("done",)),
            ("do @x(4);", 2, ("asks", "x", (4,))), ("do 1 div 0;", 3, ("stopped", "division")),
            ("func f() { return f(); } do f();", 16, ("stopped", "deep")),
        ):
            code = code_of(text)
            for budget in range(1, many):
                machine, found = run(code, begun(code), budget)
                self.assertEqual(found, ("paused",))
                self.assertEqual(machine[2:], ("ready", None))
                self.assertEqual(run(code, machine, many - budget)[1], event)
            for budget in (many, many + 1, 100000):
                self.assertEqual(run(code, begun(code), budget)[1], event)

    def test_waiting_uses_one_of_the_budget(self):
        code = code_of("wait; wait;")
        machine, event = run(code, begun(code), 2)
        self.assertEqual((machine[1][0][1], event), (1, ("waits",)))
        machine, event = run(code, machine, 1)
        self.assertEqual((machine[1][0][1], event), (2, ("waits",)))

    def test_an_end_without_end(self):
        code = code_of("while 1 { }")
        for budget in (1, 2, 3, 4, 99999, 100000):
            machine, event = run(code, begun(code), budget)
            self.assertEqual((machine[1][0][1], event), (budget % 3, ("paused",)))

    def test_done_and_stopped_stay(self):
        for text, event, mode in (("", ("done",), "done"), ("do 1 mod 0;", ("stopped", "division"), "division"),
                                  ("func f() { do f(); } do f();", ("stopped", "deep"), "deep")):
            code = code_of(text)
            machine, found = one(code)
            self.assertEqual((machine, found), (((), (), mode, None), event))
            for budget in (1, 50):
                self.assertEqual(run(code, machine, budget), (machine, event))


class WholeRunTests(unittest.TestCase):
    """Points 57, 64, 66 and 68 over whole runs, and scripts that run without a code."""

    def test_scripts_without_codes(self):
        kinds = {}
        for tree in some_trees(250, 61):
            found = told(coded(tree), ANSWERS, 25, [3000] * 30)
            wanted = Walk(tree, ANSWERS, 25).run()
            many = min(len(found), len(wanted))
            self.assertEqual(found[:many], wanted[:many])
            self.assertTrue(many > 3 or len(found) == len(wanted) or len(wanted) == 0 or len(found) == 0)
            for event, _ in found:
                kinds[event[:2] if event[0] == "stopped" else event[0]] = True
        self.assertEqual(len(kinds), 5)

    def test_pauses_change_nothing(self):
        cases = Cases(62)
        for tree in some_trees(60, 63):
            code = coded(tree)
            whole = told(code, ANSWERS, 12, [1000] * 20)
            if len(whole) == 12 or whole and whole[-1][0][0] in ("done", "stopped"):
                steps = (cases.whole(1, 9) for _ in range(30000))
                self.assertEqual(told(code, ANSWERS, 12, steps), whole)

    def test_machines_on_the_way(self):
        """Machines between two instructions are machines of the code, and go on as the heights say."""
        for tree in some_trees(40, 64):
            code = coded(tree)
            for machine in states(code, 60):
                self.assertIs(is_machine(code, machine), True)
                if machine[2] == "ready":
                    for routine, place, _, stack in machine[1][-1:]:
                        self.assertEqual(len(stack), heights(code)[routine][place])

    def test_short_codes_do_the_same(self):
        for tree in some_trees(60, 65):
            code = coded(tree)
            self.check_same(code, short(code))
        for code in some_codes(400, Cases(66)):
            self.check_same(code, short(code))

    def check_same(self, code, other):
        found, wanted = [told(some, ANSWERS, 12, [2000]) + told(some, ANSWERS, 12, [2000] * 13) for some in (other, code)]
        self.assertEqual(found, wanted)

    def test_any_sound_code_runs(self):
        for code in some_codes(400, Cases(67)):
            for machine in states(code, 80):
                self.assertIs(is_machine(code, machine), True)


    def test_running_machines_of_a_code_never_fails(self):
        """Machines that were changed and are still of the code go on, and stay of the code."""
        cases = Cases(68)
        counts = [0, 0]
        for tree in some_trees(40, 69):
            code = coded(tree)
            machines = states(code, 60)
            for _ in range(25):
                machine = cases.one(machines)
                for _ in range(cases.whole(1, 3)):
                    path = cases.one(list(parts(machine)))
                    other = cases.one(machines)
                    machine = replaced(machine, path, cases.one(
                        (cases.whole(-3, 9), LEAST, part_at(other, cases.one(list(parts(other)))))))
                holds = is_machine(code, machine)
                counts[holds] += 1
                for _ in range(30 if holds else 0):
                    machine, event = run(code, machine, cases.whole(1, 40))
                    self.assertIs(is_machine(code, machine), True)
                    if event[0] == "asks":
                        machine = answered(machine, cases.whole(-5, 5))
        self.assertGreater(min(counts), 100)


class IsMachineTests(unittest.TestCase):
    def machines(self):
        """Return CODE's machines at all kinds of places, with the mode each has."""
        asking = ((9,), ((0, 3, (), ()), (1, 2, (0, 4), ())), "asking", ("x", (4,)))
        ready = ((1,), ((0, 3, (), ()), (1, 1, (5, 4), (8,))), "ready", None)
        return [begun(CODE), asking, ready, ((1,), ((0, 4, (), ()),), "ready", None),
                *[((7,), (), mode, None) for mode in ("done", "division", "deep")]]

    def test_machines(self):
        for machine in self.machines():
            self.assertIs(is_machine(CODE, machine), True, machine)
            self.assertEqual(run(CODE, machine, 5)[1][0], {"asking": "asks", "done": "done", "division": "stopped",
                             "deep": "stopped", "ready": "asks" if len(machine[1]) == 2 else "done"}[machine[2]])

    def test_no_part_can_be_of_another_kind(self):
        for machine in self.machines():
            for path in parts(machine):
                part = part_at(machine, path)
                others = [True, 1.5, {}, [], "", "odd", LAST + 1, LEAST - 1, None, (), (1, 2, 3), "done", "ready"]
                if isinstance(part, tuple):
                    others += [list(part), (*part, 0), (*part, part), part[:-1]]
                for other in others:
                    same = type(other) is type(part) and other == part
                    if not same and not (other == "done" and part in ("division", "deep")):
                        self.assertIs(is_machine(CODE, replaced(machine, path, other)), False, (machine, path, other))

    def test_other_machines(self):
        body, inner = (0, 3, (), ()), (1, 1, (5, 4), (8,))
        for frames, mode, pending, holds in (
            ((), "ready", None, False), ((), "asking", ("x", (1,)), False), ((body, inner), "done", None, False),
            ((inner,), "ready", None, False), ((body, body), "ready", None, False), ((body, inner, inner), "ready", None, False),
            ((body,), "ready", None, False), (((0, 3, (), (6,)),), "ready", None, True),
            (((0, 4, (), ()), inner), "ready", None, False), (((0, 3, (), (1,)), inner), "ready", None, False),
            (((0, 0, (), ()), inner), "ready", None, False), ((body, (1, 1, (5, 4), ())), "ready", None, False),
            ((body, (1, 0, (5, 4), ())), "ready", None, True), ((body, (1, 0, (5, 4, 1), ())), "ready", None, False),
            ((body, (1, 0, (5,), ())), "ready", None, False), ((body, (1, 3, (5, 4), ())), "ready", None, False),
            ((body, (1, -1, (5, 4), ())), "ready", None, False), ((body, (2, 0, (5, 4), ())), "ready", None, False),
            ((body, (-1, 0, (5, 4), ())), "ready", None, False), ((body, inner), "ready", ("x", (1,)), False),
            ((body, (1, 2, (5, 4), ())), "asking", ("x", (1,)), True), ((body, (1, 2, (5, 4), ())), "asking", None, False),
            ((body, (1, 2, (5, 4), ())), "asking", ("y", (1,)), False),
            ((body, (1, 2, (5, 4), ())), "asking", ("x", ()), False),
            ((body, (1, 2, (5, 4), ())), "asking", ("x", (1, 1)), False),
            ((body, (1, 2, (5, 4), (1,))), "asking", ("x", (1,)), False),
            ((body, (1, 1, (5, 4), ())), "asking", ("x", (1,)), False),
            ((body, (1, 0, (5, 4), ())), "asking", ("x", (1,)), False),
        ):
            self.assertIs(is_machine(CODE, ((0,), frames, mode, pending)), holds, (frames, mode, pending))

    def test_indexes_below_zero(self):
        for code, frame in ((CODE, (0, -1, (), ())), (of_body(END), (-1, 0, (), ())), (of_body(END), (0, -1, (), ()))):
            self.assertIs(is_machine(code, ((0,), (frame,), "ready", None)), False)

    def test_places_that_are_not_reached(self):
        rows = (("jump", 4), ("ask", "x", 0), ("drop",), ("jump", 5), ("wait",), END)
        code = of_body(*rows, count=0)
        for place, holds in enumerate((True, False, False, False, True, True)):
            self.assertIs(is_machine(code, ((), ((0, place, (), ()),), "ready", None)), holds)
        self.assertIs(is_machine(code, ((), ((0, 2, (), ()),), "asking", ("x", ()))), False)
        rows = (("jump", 3), ("call", 1), ("drop",), END)
        code = (0, ((0, 0, rows), (0, 0, (("int", 0), ("return",)))))
        self.assertIs(is_machine(code, ((), ((0, 2, (), ()), (1, 0, (), ())), "ready", None)), False)

    def test_many_frames(self):
        code = code_of("func f(k) { return f(k); } do f(1);")
        outer = (1, 2, (1,), ())
        for many, holds in ((0, True), (14, True), (15, False), (16, False)):
            frames = ((0, 2, (), ()),) + (outer,) * many + ((1, 0, (1,), ()),)
            self.assertIs(is_machine(code, ((), frames, "ready", None)), holds)

    def test_of_another_code(self):
        for value in (*NO_TUPLES, (), ((), (), "done", None), ((0, 0), (), "done", None), ((0,), [], "done", None),
                      [(0,), (), "done", None], ((0,), (), "done"), ((0,), (), "done", None, None)):
            self.assertIs(is_machine(CODE, value), False)


class ErrorTests(unittest.TestCase):
    def test_errors(self):
        wrong = wrong_codes()
        machine = begun(CODE)
        no_machines = [*NO_TUPLES, (), ((), (), "done", None), ((0, 0), *machine[1:]), (*machine, None), [*machine]]
        no_budgets = (0, -1, 100001, *NO_INTEGERS)
        check_arguments(self, begun, (CODE,), (("code", wrong),))
        check_arguments(self, run, (CODE, machine, 100000), (("code", wrong), ("machine", no_machines), ("budget", no_budgets)))
        for value in (machine, None):
            check_arguments(self, lambda code: is_machine(code, value), (CODE,), (("code", wrong),))
        asking = one(code_of("do @x(4);"))[0]
        frame = ((0, 2, (), ()),)
        no_askers = [*NO_TUPLES, (), machine, [*asking], (*asking, None), asking[:3], ((), (), "asking", ("x", (4,))),
                     ((), frame, "ready", None), ((), frame, None, None), ((), frame, ["asking"], None),
                     ((), (), "done", None), ((), list(frame), "asking", ("x", (4,))), ((), (5,), "asking", ("x", (4,))),
                     ((), (*frame, 5), "asking", ("x", (4,))), ((), ((0, 2, (), None),), "asking", ("x", (4,))),
                     ((), ((0, 2, ()),), "asking", ("x", (4,)))]
        check_arguments(self, answered, (asking, 4), (("machine", no_askers), ("answer", NO_INTEGERS)))

    def test_nothing_is_changed(self):
        code = code_of("var a; a = @x(4);")
        check_pure(self, run, code, begun(code), 5)
        check_pure(self, answered, one(code)[0], 5)
        check_pure(self, begun, code)


if __name__ == "__main__":
    unittest.main()
