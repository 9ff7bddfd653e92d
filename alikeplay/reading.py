"""Reading a script whose tokens follow the grammar."""

from alikeplay.errors import BadScript
from alikeplay.operations import COMPARISON, LEVELS, MOST_OPERATIONS, OR, UNARY, depth
from alikeplay.trees import MOST_FUNCTIONS, MOST_PARAMETERS, MOST_SLOTS, MOST_VARIABLES

WORDS_OF = {
    "or": "or", "and": "and", "==": "eq", "!=": "ne", "<": "lt", "<=": "le", ">": "gt", ">=": "ge",
    "+": "plus", "-": "minus", "*": "times", "div": "div", "mod": "mod",
}
UNARY_WORDS_OF = {"-": "neg", "not": "not"}


def arguments_counted(tokens):
    """Return a dict with the number of arguments, or parameters, behind each opening parenthesis."""
    counts = {}
    opened = []
    for index, token in enumerate(tokens):
        characters = token[1]
        if characters == "(":
            opened.append(index)
            counts[index] = 0 if tokens[index + 1][1] == ")" else 1
        elif characters == ")":
            opened.pop()
        elif characters == ",":
            counts[opened[-1]] += 1
    return counts


class Reader:
    """The tokens of a script and the place up to which they were read."""

    def __init__(self, tokens, commands):
        self.tokens = tokens
        self.at = 0
        self.counts = arguments_counted(tokens)
        self.commands = {name: count for name, count in commands}
        self.functions = {}
        for index, token in enumerate(tokens):
            if token[1] == "func":
                self.functions.setdefault(tokens[index + 1][1], self.counts[index + 2])
        self.variables = []
        self.slots = []
        self.is_inside = False

    def script(self):
        """Return the tree of the whole script."""
        while self._passes("var"):
            is_full = len(self.variables) == MOST_VARIABLES
            self.variables.append(self._new_name(self.variables, is_full, "a script has at most 12 variables"))
            self._pass()
        functions = []
        names = list(self.variables)
        while self._passes("func"):
            is_full = len(functions) == MOST_FUNCTIONS
            names.append(self._new_name(names, is_full, "a script has at most 8 functions"))
            functions.append(self._function(names[-1]))
        return tuple(self.variables), tuple(functions), self._statements()

    def _sees(self, characters):
        return self.tokens[self.at][1] == characters

    def _passes(self, characters):
        """Tell whether the next token is this one, and go behind it then."""
        if not self._sees(characters):
            return False
        self.at += 1
        return True

    def _pass(self):
        """Go behind a token that the grammar asks for here, and return its characters."""
        self.at += 1
        return self.tokens[self.at - 1][1]

    def _fail(self, index, words):
        _, _, line, column = self.tokens[index]
        raise BadScript(line, column, words)

    def _check(self, holds, words):
        """Report a problem of the next token if what it needs does not hold."""
        if not holds:
            self._fail(self.at, words)

    def _new_name(self, names, is_full, words):
        """Return a name that stands there for the first time."""
        self._check(not is_full, words)
        self._check(self.tokens[self.at][1] not in names, "this name stands already")
        return self._pass()

    def _function(self, name):
        self._pass()
        while not self._passes(")"):
            self._passes(",")
            is_full = len(self.slots) == MOST_PARAMETERS
            self.slots.append(self._new_name(self.slots, is_full, "a function has at most 4 parameters"))
        parameters = tuple(self.slots)
        self._pass()
        while self._passes("var"):
            is_full = len(self.slots) == MOST_SLOTS
            self.slots.append(self._new_name(self.slots, is_full, "a function has at most 8 variables"))
            self._pass()
        variables = tuple(self.slots[len(parameters):])
        self.is_inside = True
        body = self._statements()
        self.is_inside = False
        self.slots = []
        self._pass()
        return name, parameters, variables, body

    def _statements(self):
        found = []
        while not self._sees("}") and not self._sees(""):
            found.append(self._statement())
        return tuple(found)

    def _block(self):
        self._pass()
        found = self._statements()
        self._pass()
        return found

    def _statement(self):
        if self.tokens[self.at][0] == "name":
            self._check_known()
            statement = ("set", self._pass(), self._behind_sign())
        elif self._sees("if") or self._sees("while"):
            return self._branch()
        elif self._sees("wait"):
            statement = (self._pass(),)
        else:
            self._check(self.is_inside or not self._sees("return"), "return stands outside of functions")
            statement = (self._pass(), self._expression(OR))
        self._pass()
        return statement

    def _behind_sign(self):
        self._pass()
        return self._expression(OR)

    def _branch(self):
        word = self._pass()
        condition = self._expression(OR)
        block = self._block()
        if word == "while":
            return word, condition, block
        return word, condition, block, self._block() if self._passes("else") else ()

    def _check_known(self):
        name = self.tokens[self.at][1]
        self._check(name in self.slots or name in self.variables, "this name is unknown")

    def _expression(self, level):
        """Return the next expression that holds together as tightly as the level."""
        if level == UNARY:
            return self._unary()
        found = self._expression(level + 1)
        word = self._operation()
        while word is not None and LEVELS[word] == level:
            is_free = level == COMPARISON or depth(found, level) < MOST_OPERATIONS
            self._check(is_free, "too many operands")
            self._pass()
            found = (word, found, self._expression(level + 1))
            word = self._operation()
        return found

    def _operation(self):
        """Return the word of the operation that the next token asks for, or None."""
        return WORDS_OF.get(self.tokens[self.at][1], None)

    def _unary(self):
        index = self.at
        word = UNARY_WORDS_OF.get(self.tokens[index][1], None)
        if word is None:
            return self._atom()
        self._pass()
        operand = self._unary()
        if depth(operand, UNARY) >= MOST_OPERATIONS:
            self._fail(index, "too many operands")
        return word, operand

    def _atom(self):
        if self.tokens[self.at][0] == "number":
            return "int", int(self._pass())
        if self._passes("("):
            found = self._expression(OR)
            self._pass()
            return found
        if self._passes("@"):
            return self._call("ask", self.commands, "this command is unknown")
        if self.tokens[self.at + 1][1] == "(":
            return self._call("call", self.functions, "this function is unknown")
        self._check_known()
        return "name", self._pass()

    def _call(self, word, known, words):
        name = self.tokens[self.at][1]
        self._check(name in known, words)
        self._check(known[name] == self.counts[self.at + 1], "wrong number of arguments")
        self._pass()
        self._pass()
        arguments = []
        while not self._passes(")"):
            self._passes(",")
            arguments.append(self._expression(OR))
        return word, name, tuple(arguments)
