"""The codes of scripts."""

from alikeplay.checks import require
from alikeplay.codes import MOST_INSTRUCTIONS, heights_of, is_some_code, is_sound
from alikeplay.commands import Commands, is_commands
from alikeplay.errors import TooLarge
from alikeplay.operations import ATOM, LEVELS, row_of
from alikeplay.shortening import shortened
from alikeplay.trees import is_some_tree


def coded(tree):
    """Return the code of a tree."""
    require(is_some_tree(tree), "tree")
    variables, functions, body = tree
    names = [function[0] for function in functions]
    routines = [(0, 0, _routine(body, variables, (), names, [("end",)]))]
    for _, parameters, more, block in functions:
        slots = parameters + more
        instructions = _routine(block, variables, slots, names, [("int", 0), ("return",)])
        routines.append((len(parameters), len(slots), instructions))
    if sum([len(routine[2]) for routine in routines]) > MOST_INSTRUCTIONS:
        raise TooLarge("code")
    return len(variables), tuple(routines)


def _routine(block, variables, slots, functions, behind):
    coder = Coder(variables, slots, functions)
    coder.add_block(block)
    return tuple(coder.instructions + behind)


class Coder:
    """The instructions of a routine, while they are made."""

    def __init__(self, variables, slots, functions):
        self.instructions = []
        self.variables = variables
        self.slots = slots
        self.functions = functions

    def add_block(self, block):
        """Add the code of the statements."""
        for statement in block:
            self._add_statement(statement)

    def _add(self, *instruction):
        """Add an instruction, and return its place."""
        self.instructions.append(instruction)
        return len(self.instructions) - 1

    def _lead_here(self, place):
        """Let the instruction at the place name the next place to come."""
        self.instructions[place] = self.instructions[place][0], len(self.instructions)

    def _add_statement(self, statement):
        word = statement[0]
        begin = len(self.instructions)
        if word == "wait":
            self._add("wait")
            return
        self._add_expression(statement[-1] if word == "set" else statement[1])
        if word == "set":
            self._add_named("store", "put", statement[1])
        elif word == "do":
            self._add("drop")
        elif word == "return":
            self._add("return")
        else:
            self._add_branch(statement, begin)

    def _add_branch(self, statement, begin):
        """Add what stands behind the condition of an `if` or a `while`, whose code begins there."""
        condition = self._add("unless", begin)
        self.add_block(statement[2])
        if statement[0] == "while":
            self._add("jump", begin)
        elif statement[3]:
            end = self._add("jump", begin)
            self._lead_here(condition)
            self.add_block(statement[3])
            self._lead_here(end)
            return
        self._lead_here(condition)

    def _add_named(self, word_of_slot, word_of_variable, name):
        if name in self.slots:
            self._add(word_of_slot, self.slots.index(name))
        else:
            self._add(word_of_variable, self.variables.index(name))

    def _add_expression(self, expression):
        """Add the code of an expression."""
        if LEVELS[expression[0]] == ATOM:
            self._add_atom(expression)
            return
        row = row_of(expression)
        self._add_expression(row[-1][1])
        for operation in row[::-1]:
            self._add_operation(operation)

    def _add_operation(self, operation):
        """Add the code of an operation behind that of its first operand."""
        word = operation[0]
        if word == "and" or word == "or":
            place = self._add(word, 0)
            self._add_expression(operation[2])
            self._add("truth")
            self._lead_here(place)
        else:
            for operand in operation[2:]:
                self._add_expression(operand)
            self._add(word)

    def _add_atom(self, expression):
        word = expression[0]
        if word == "int":
            self._add(word, expression[1])
        elif word == "name":
            self._add_named("load", "get", expression[1])
        else:
            _, name, arguments = expression
            for argument in arguments:
                self._add_expression(argument)
            if word == "ask":
                self._add(word, name, len(arguments))
            else:
                self._add(word, self.functions.index(name) + 1)


def is_code(value, commands):
    """Tell whether the value is sound code for the commands."""
    require(is_commands(commands), "commands")
    return is_sound(value, Commands(commands, False))


def commands_of_code(code):
    """Return the list of the commands that the code asks, in ascending order."""
    require(is_some_code(code), "code")
    found = {}
    for _, _, instructions in code[1]:
        for instruction in instructions:
            if instruction[0] == "ask":
                found[instruction[1:]] = True
    return sorted(found)


def heights(code):
    """Return a list with the list of the heights of each routine, None for a place that is not reached."""
    require(is_some_code(code), "code")
    return heights_of(code)


def short(code):
    """Return the code that does the same with fewer instructions or as many."""
    require(is_some_code(code), "code")
    count, routines = code
    return count, tuple([(parameters, slots, shortened(rows)) for parameters, slots, rows in routines])
