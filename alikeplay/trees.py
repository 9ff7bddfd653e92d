"""The trees of scripts: which ones some text has."""

from alikeplay.checks import is_tuple
from alikeplay.commands import Commands, is_script_name
from alikeplay.operations import ATOM, MOST_OPERATIONS, OR, level_of, row_of
from alikeplay.scanning import DEEPEST, GREATEST_NUMBER
from alikeplay.whole import is_between

MOST_VARIABLES = 12
MOST_FUNCTIONS = 8
MOST_PARAMETERS = 4
MOST_SLOTS = 8


def is_some_tree(value):
    """Tell whether the value is a tree that is valid for any commands."""
    return TreeCheck(Commands([], True)).is_script(value)


def are_names(value, most):
    """Tell whether the value is a tuple of at most so many different names."""
    if not isinstance(value, tuple) or len(value) > most or not all(is_script_name(name) for name in value):
        return False
    return len({name: True for name in value}) == len(value)


class TreeCheck:
    """What a script knows at a place of its tree: variables, functions and, inside of a function, its slots."""

    def __init__(self, commands):
        self.commands = commands
        self.variables = ()
        self.functions = {}
        self.slots = ()
        self.is_inside = False

    def is_script(self, value):
        """Tell whether the value is a whole tree."""
        if not is_tuple(value, 3) or not are_names(value[0], MOST_VARIABLES):
            return False
        self.variables, functions, body = value
        if not self._take_heads(functions) or not self._is_block(body, 0):
            return False
        self.is_inside = True
        return all(self._is_function(function) for function in functions)

    def _take_heads(self, value):
        """Learn the functions and how many parameters they have; tell whether they can stand together."""
        if not isinstance(value, tuple) or len(value) > MOST_FUNCTIONS:
            return False
        for function in value:
            if not is_tuple(function, 4) or not are_names(function[1], MOST_PARAMETERS):
                return False
            name = function[0]
            if not is_script_name(name) or name in self.variables or name in self.functions:
                return False
            self.functions[name] = len(function[1])
        return True

    def _is_function(self, function):
        _, parameters, variables, body = function
        if not isinstance(variables, tuple) or not are_names(parameters + variables, MOST_SLOTS):
            return False
        self.slots = parameters + variables
        return self._is_block(body, 1)

    def _is_block(self, value, opened):
        """Tell whether the value is a block that stands in so many open braces."""
        return isinstance(value, tuple) and all(self._is_statement(statement, opened) for statement in value)

    def _is_statement(self, value, opened):
        if not isinstance(value, tuple) or len(value) == 0:
            return False
        word = value[0]
        if word == "set":
            return len(value) == 3 and self._is_known(value[1]) and self._is_expression(value[2], OR, opened)
        if word == "do" or word == "return" and self.is_inside:
            return len(value) == 2 and self._is_expression(value[1], OR, opened)
        if word == "if" or word == "while":
            return self._is_branch(value, opened)
        return value == ("wait",)

    def _is_branch(self, value, opened):
        """Tell whether the value is an `if` or a `while`; each of its blocks stands in braces."""
        if len(value) != (4 if value[0] == "if" else 3) or opened == DEEPEST:
            return False
        if not self._is_expression(value[1], OR, opened):
            return False
        return all(self._is_block(block, opened + 1) for block in value[2:])

    def _is_known(self, name):
        return name in self.slots or name in self.variables

    def _is_expression(self, value, least, opened):
        """Tell whether the value is an expression that can stand where so many parentheses and braces are open.

        If its level is less than the least one, it needs parentheses of its own.
        """
        level = level_of(value)
        if level is None:
            return False
        if level < least:
            opened += 1
        if opened > DEEPEST:
            return False
        if level == ATOM:
            return self._is_atom(value, opened)
        return self._is_operation(value, level, opened)

    def _is_operation(self, value, level, opened):
        row = row_of(value)
        if len(row) > MOST_OPERATIONS:
            return False
        for operation in row:
            if not all(self._is_expression(operand, level + 1, opened) for operand in operation[2:]):
                return False
        return self._is_expression(row[-1][1], level + 1, opened)

    def _is_atom(self, value, opened):
        word = value[0]
        if word == "int":
            return is_between(value[1], 0, GREATEST_NUMBER)
        if word == "name":
            return self._is_known(value[1])
        _, name, arguments = value
        if not isinstance(name, str) or not isinstance(arguments, tuple) or opened == DEEPEST:
            return False
        if word == "call" and self.functions.get(name, None) != len(arguments):
            return False
        if word == "ask" and not self.commands.allow(name, len(arguments)):
            return False
        return all(self._is_expression(argument, OR, opened + 1) for argument in arguments)
