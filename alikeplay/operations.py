"""The expressions of trees: how tightly they hold together, and how deep they are."""

OR = 0
COMPARISON = 2
UNARY = 5
ATOM = 6
MOST_OPERATIONS = 4

# How tightly an expression with this word holds together: the greater the level, the tighter.
LEVELS = {
    "or": 0, "and": 1, "eq": 2, "ne": 2, "lt": 2, "le": 2, "gt": 2, "ge": 2, "plus": 3, "minus": 3,
    "times": 4, "div": 4, "mod": 4, "neg": 5, "not": 5, "int": 6, "name": 6, "call": 6, "ask": 6,
}
LENGTHS = {"neg": 2, "not": 2, "int": 2, "name": 2}

# How an operation with two operands is written.
SIGNS_OF = {
    "or": "or", "and": "and", "eq": "==", "ne": "!=", "lt": "<", "le": "<=", "gt": ">", "ge": ">=",
    "plus": "+", "minus": "-", "times": "*", "div": "div", "mod": "mod",
}


def level_of(value):
    """Return the level of an expression, or None if the value has not the outer form of one."""
    if not isinstance(value, tuple) or len(value) == 0 or not isinstance(value[0], str):
        return None
    if len(value) != LENGTHS.get(value[0], 3):
        return None
    return LEVELS.get(value[0], None)


def depth(expression, level):
    """Return how many operations of the level the expression is, each the first operand of the one around it."""
    found = 0
    while level_of(expression) == level:
        expression = expression[1]
        found += 1
    return found


def row_of(expression):
    """Return the list of the operations of one level that begins with the expression, an operation.

    Each is the first operand of the one before it. An operand of a row stands without parentheses if its level is
    greater; no row goes on with operations of its own level, and a comparison is a row alone. Rows are gone through by
    loops, so that calls do not stand deep.
    """
    level = LEVELS[expression[0]]
    many = 1 if level == COMPARISON else depth(expression, level)
    found = [expression]
    while len(found) < many:
        found.append(found[-1][1])
    return found
