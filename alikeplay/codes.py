"""The form of codes, and the heights of the stack in sound ones."""

from alikeplay.checks import is_tuple
from alikeplay.commands import Commands
from alikeplay.trees import MOST_FUNCTIONS, MOST_PARAMETERS, MOST_SLOTS, MOST_VARIABLES
from alikeplay.whole import is_between

MOST_INSTRUCTIONS = 1000
HIGHEST = 300
LEAST_VALUE = -2147483648
GREATEST_VALUE = 2147483647

# How many integers an instruction takes off the stack, and how many it lays; those of "call" and "ask" vary.
EFFECTS = {
    "int": (0, 1), "get": (0, 1), "load": (0, 1), "put": (1, 0), "store": (1, 0), "drop": (1, 0),
    "neg": (1, 1), "not": (1, 1), "truth": (1, 1), "plus": (2, 1), "minus": (2, 1), "times": (2, 1),
    "div": (2, 1), "mod": (2, 1), "eq": (2, 1), "ne": (2, 1), "lt": (2, 1), "le": (2, 1), "gt": (2, 1),
    "ge": (2, 1), "jump": (0, 0), "unless": (1, 0), "and": (1, 0), "or": (1, 0), "return": (1, 0),
    "wait": (0, 0), "end": (0, 0),
}
# The instructions that name a place.
PLACED = ("jump", "unless", "and", "or")


def is_value(value):
    """Tell whether the value is an integer of 32 bits, as scripts work with."""
    return is_between(value, LEAST_VALUE, GREATEST_VALUE)


def is_some_code(value):
    """Tell whether the value is sound code for the commands that it asks."""
    return is_sound(value, Commands([], True))


def is_sound(value, commands):
    """Tell whether the value is sound code for the commands."""
    return _is_code_form(value, commands) and heights_of(value) is not None


def _is_code_form(value, commands):
    if not is_tuple(value, 2) or not is_between(value[0], 0, MOST_VARIABLES):
        return False
    count, routines = value
    if not isinstance(routines, tuple) or not 1 <= len(routines) <= MOST_FUNCTIONS + 1:
        return False
    if not all(_is_routine_form(routine) for routine in routines) or routines[0][:2] != (0, 0):
        return False
    if sum([len(routine[2]) for routine in routines]) > MOST_INSTRUCTIONS:
        return False
    return all(_are_instructions(routine, count, len(routines), commands) for routine in routines)


def _is_routine_form(value):
    """Tell whether the value is a routine, whatever its instructions are."""
    if not is_tuple(value, 3) or not isinstance(value[2], tuple):
        return False
    parameters, slots, _ = value
    return is_between(parameters, 0, MOST_PARAMETERS) and is_between(slots, parameters, MOST_SLOTS)


def _are_instructions(routine, count, routines, commands):
    """Tell whether the instructions of a routine have their forms, in a code of so many variables and routines."""
    _, slots, instructions = routine
    bounds = {word: (0, len(instructions) - 1) for word in PLACED}
    bounds["int"] = LEAST_VALUE, GREATEST_VALUE
    bounds["get"] = bounds["put"] = 0, count - 1
    bounds["load"] = bounds["store"] = 0, slots - 1
    bounds["call"] = 1, routines - 1
    return all(_is_instruction(instruction, bounds, commands) for instruction in instructions)


def _is_instruction(value, bounds, commands):
    """Tell whether the value is an instruction; `bounds` tells the least and the greatest index behind a word."""
    if not isinstance(value, tuple) or len(value) == 0 or not isinstance(value[0], str):
        return False
    word = value[0]
    if word == "ask":
        return len(value) == 3 and isinstance(value[1], str) and commands.allow(value[1], value[2])
    if word not in bounds:
        return len(value) == 1 and word in EFFECTS
    low, high = bounds[word]
    return len(value) == 2 and is_between(value[1], low, high)


def effect(instruction, routines):
    """Return how many integers the instruction takes off the stack, and how many it lays."""
    word = instruction[0]
    if word == "call":
        return routines[instruction[1]][0], 1
    if word == "ask":
        return instruction[2], 1
    return EFFECTS[word]


def heights_of(code):
    """Return a list with the list of the heights of each routine, or None if the code is not sound."""
    routines = code[1]
    found = [_routine_heights(routines, index) for index in range(len(routines))]
    return None if None in found else found


def _routine_heights(routines, index):
    instructions = routines[index][2]
    heights = [None] * len(instructions)
    ways = [(0, 0)]
    while ways:
        place, height = ways.pop()
        if place >= len(instructions) or height > HIGHEST:
            return None
        if heights[place] is None:
            heights[place] = height
            behind = _ways_behind(routines, index, place, height)
            if behind is None:
                return None
            ways.extend(behind)
        elif heights[place] != height:
            return None
    return heights


def _ways_behind(routines, index, place, height):
    """Return the list of the places at which the machine can go on, with their heights; None if it is not sound."""
    instruction = routines[index][2][place]
    word = instruction[0]
    taken, laid = effect(instruction, routines)
    if height < taken:
        return None
    if word == "return":
        return [] if index > 0 and height == 1 else None
    if word == "end":
        return [] if index == 0 and height == 0 else None
    behind = height - taken + laid
    if word == "jump":
        return [(instruction[1], behind)]
    if word == "unless":
        return [(place + 1, behind), (instruction[1], behind)]
    if word == "and" or word == "or":
        return [(place + 1, behind), (instruction[1], height)]
    return [(place + 1, behind)]
