"""The texts of trees."""

from alikeplay.checks import require
from alikeplay.operations import ATOM, LEVELS, OR, SIGNS_OF, UNARY, row_of
from alikeplay.trees import is_some_tree

INDENT = "  "
PREFIXES = {"neg": "-", "not": "not "}


def script_text(tree):
    """Return the text of a tree."""
    require(is_some_tree(tree), "tree")
    variables, functions, body = tree
    lines = _variable_lines(variables)
    for function in functions:
        lines.extend(_function_lines(function))
    lines.extend(_block_lines(body))
    return "".join([line + "\n" for line in lines])


def _variable_lines(names):
    return [f"var {name};" for name in names]


def _function_lines(function):
    name, parameters, variables, body = function
    head = "func " + name + "(" + ", ".join(parameters) + ") {"
    return [head] + _indented(_variable_lines(variables) + _block_lines(body)) + ["}"]


def _indented(lines):
    return [INDENT + line for line in lines]


def _block_lines(block):
    lines = []
    for statement in block:
        lines.extend(_statement_lines(statement))
    return lines


def _statement_lines(statement):
    word = statement[0]
    if word == "wait":
        return ["wait;"]
    if word == "set":
        return [statement[1] + " = " + _text(statement[2], OR) + ";"]
    condition = _text(statement[1], OR)
    if word == "do" or word == "return":
        return [word + " " + condition + ";"]
    lines = [word + " " + condition + " {"] + _indented(_block_lines(statement[2]))
    if word == "if" and statement[3]:
        lines.append("} else {")
        lines.extend(_indented(_block_lines(statement[3])))
    return lines + ["}"]


def _text(expression, least):
    """Return the text of an expression, in parentheses if its level is less than the least one."""
    level = LEVELS[expression[0]]
    text = _atom_text(expression) if level == ATOM else _operation_text(expression, level)
    return "(" + text + ")" if level < least else text


def _operation_text(expression, level):
    row = row_of(expression)
    text = _text(row[-1][1], level + 1)
    for operation in row[::-1]:
        if level == UNARY:
            text = PREFIXES[operation[0]] + text
        else:
            text = text + " " + SIGNS_OF[operation[0]] + " " + _text(operation[2], level + 1)
    return text


def _atom_text(expression):
    if expression[0] == "int":
        return str(expression[1])
    if expression[0] == "name":
        return expression[1]
    word, name, arguments = expression
    mark = "@" if word == "ask" else ""
    return mark + name + "(" + ", ".join([_text(argument, OR) for argument in arguments]) + ")"
