"""Machines that run the codes of scripts."""

from alikeplay.checks import is_tuple, require
from alikeplay.codes import is_some_code
from alikeplay.machineforms import MachineCheck
from alikeplay.running import ASKING, begin, behind_answer, gone_on
from alikeplay.whole import is_between, is_whole

GREATEST_BUDGET = 100000


def begun(code):
    """Return the machine that begins."""
    require(is_some_code(code), "code")
    return begin(code)


def run(code, machine, budget):
    """Let the machine go on for at most so many instructions; return it with the event that stops it."""
    require(is_some_code(code), "code")
    require(MachineCheck(code).is_machine(machine), "machine")
    require(is_between(budget, 1, GREATEST_BUDGET), "budget")
    return gone_on(code, machine, budget)


def answered(machine, answer):
    """Return the machine behind its command, with the wrapped answer."""
    require(_is_asking(machine), "machine")
    require(is_whole(answer), "answer")
    return behind_answer(machine, answer)


def _is_asking(value):
    if not is_tuple(value, 4) or value[2] != ASKING:
        return False
    frames = value[1]
    return isinstance(frames, tuple) and len(frames) > 0 and _is_frame(frames[-1])


def _is_frame(value):
    return is_tuple(value, 4) and isinstance(value[3], tuple)


def is_machine(code, value):
    """Tell whether the value is a machine of the code."""
    require(is_some_code(code), "code")
    return MachineCheck(code).is_machine(value)
