"""Makes scripts for the tests, and reads, writes and runs them in other ways than the program does."""

import itertools
import re

RESERVED = ("var", "func", "if", "else", "while", "wait", "return", "do", "or", "and", "not", "div", "mod")
SIGNS = ("{", "}", "(", ")", ";", ",", "@", "=", "==", "!=", "<", "<=", ">", ">=", "+", "-", "*")
WORDS = ("a name", "a number", *RESERVED, *[f'"{sign}"' for sign in SIGNS], "the end")

# Point 48 as the document writes it; how often the repetitions are made, and the signs of UNARY, stand below.
GRAMMAR = '''
SCRIPT      = { "var" NAME ";" } { FUNCTION } { STATEMENT } END
FUNCTION    = "func" NAME "(" [ NAME { "," NAME } ] ")" "{" { "var" NAME ";" } { STATEMENT } "}"
STATEMENT   = NAME "=" EXPRESSION ";" | "do" EXPRESSION ";" | "if" EXPRESSION BLOCK [ "else" BLOCK ]
            | "while" EXPRESSION BLOCK | "wait" ";" | "return" EXPRESSION ";"
BLOCK       = "{" { STATEMENT } "}"
EXPRESSION  = CONJUNCTION { "or" CONJUNCTION }
CONJUNCTION = COMPARISON { "and" COMPARISON }
COMPARISON  = SUM [ ( "==" | "!=" | "<" | "<=" | ">" | ">=" ) SUM ]
SUM         = PRODUCT { ( "+" | "-" ) PRODUCT }
PRODUCT     = UNARY { ( "*" | "div" | "mod" ) UNARY }
UNARY       = ATOM | ( "-" | "not" ) UNARY
ATOM        = NUMBER | NAME [ ARGUMENTS ] | "@" NAME ARGUMENTS | "(" EXPRESSION ")"
ARGUMENTS   = "(" [ EXPRESSION { "," EXPRESSION } ] ")"
'''
LIMITED = ("EXPRESSION", "CONJUNCTION", "SUM", "PRODUCT")
TERMINALS = {"NAME": "a name", "NUMBER": "a number", "END": "the end"}


def grammar_rules():
    """Return the rules of the grammar, read from its text: a dict from a word to what it stands for."""
    rules = {}
    for word, text in re.findall(r"^(\w+) += ((?:.|\n +\|)+)$", GRAMMAR, re.M):
        pieces = re.findall(r'"[^"]+"|\w+|[][(){}|]', text)
        rules[word] = alternatives(pieces, 4 if word in LIMITED else None)
        assert not pieces, pieces
    prefix = ("many", ("or", [("seq", ['"-"']), ("seq", ['not'])]), 4)
    rules["UNARY"] = ("seq", [prefix, "ATOM"])
    return rules


def alternatives(pieces, limit):
    found = [[]]
    while pieces and pieces[0] not in ("]", ")", "}"):
        piece = pieces.pop(0)
        if piece == "|":
            found.append([])
        elif piece in ("(", "[", "{"):
            inner = alternatives(pieces, limit)
            pieces.pop(0)
            found[-1].append({"(": inner, "[": ("many", inner, 1), "{": ("many", inner, limit)}[piece])
        elif piece[0] == '"':
            found[-1].append(piece.strip('"') if piece.strip('"') in RESERVED else piece)
        else:
            found[-1].append(TERMINALS.get(piece, piece))
    return ("or", [("seq", row) for row in found])


RULES = grammar_rules()


def coming(stacks):
    """Go from stacks of what is to come to a dict from each word that can come to the stacks behind it."""
    found = {}
    stacks = list(stacks)
    while stacks:
        head, *rest = stacks.pop()
        rest = tuple(rest)
        if isinstance(head, str) and head in RULES:
            stacks.append((Hold(RULES[head]), *rest))
        elif isinstance(head, str):
            found.setdefault(head, []).append(rest)
        else:
            stacks.extend((*row, *rest) for row in head.ways())
    return found


class Hold:
    """A piece of the grammar."""

    def __init__(self, piece):
        self.piece = piece

    def ways(self):
        kind, inner = self.piece[:2]
        if kind == "or":
            return [(hold(row),) for row in inner]
        if kind == "seq":
            return [tuple(hold(row) for row in inner)]
        many = self.piece[2]
        if many == 0:
            return [()]
        return [(), (hold(inner), Hold((kind, inner, None if many is None else many - 1)))]


def hold(piece):
    return piece if isinstance(piece, str) else Hold(piece)


def written(word, cases):
    """Return a token for a word of the grammar."""
    if word == "a name":
        return cases.one(("a", "b", "c1", "zz"))
    if word == "a number":
        return str(cases.whole(0, 99))
    return word.strip('"')


VARIABLES = ("a", "b", "far")
FUNCTIONS = (("one", ("p",), ("q",)), ("two", ("a", "p"), ()), ("zero", (), ("b", "c", "d")))
COMMANDS = [("x", 1), ("me", 0), ("near", 2), ("four", 4)]
BINARY = ("plus", "minus", "times", "div", "mod", "eq", "ne", "lt", "le", "gt", "ge", "and", "or")
LEVELS = {"or": 0, "and": 1, "eq": 2, "ne": 2, "lt": 2, "le": 2, "gt": 2, "ge": 2, "plus": 3, "minus": 3, "times": 4,
          "div": 4, "mod": 4}
TEXT_SIGNS = dict(zip(BINARY, ("+", "-", "*", "div", "mod", "==", "!=", "<", "<=", ">", ">=", "and", "or")))


def some_expression(cases, names, depth):
    """Make an expression; it may be too deep in rows or parentheses to be valid."""
    if depth <= 0 or cases.whole(0, 9) == 0:
        kind = cases.whole(0, 3)
        if kind == 0:
            return "int", cases.one((0, 1, 2, 3, 5, 7, 10, 100, 65536, 2147483647))
        return "name", cases.one(names)
    kind = cases.whole(0, 11)
    if kind < 2:
        return cases.one(("neg", "not")), some_expression(cases, names, depth - 1)
    if kind == 2:
        name, parameters, _ = cases.one(FUNCTIONS)
        return "call", name, tuple(some_expression(cases, names, depth - 2) for _ in parameters)
    if kind == 3:
        name, count = cases.one(COMMANDS)
        return "ask", name, tuple(some_expression(cases, names, depth - 2) for _ in range(count))
    word = cases.one(BINARY)
    return word, some_expression(cases, names, depth - 1), some_expression(cases, names, depth - 1)


def some_block(cases, names, inside, depth):
    return tuple(some_statement(cases, names, inside, depth) for _ in range(cases.whole(0, 3)))


def some_statement(cases, names, inside, depth):
    kind = cases.whole(0, 9)
    value = some_expression(cases, names, cases.whole(0, 4))
    if kind < 2 and depth > 0:
        other = some_block(cases, names, inside, depth - 1) if cases.whole(0, 1) else ()
        return "if", value, some_block(cases, names, inside, depth - 1), other
    if kind == 2 and depth > 0:
        return "while", value, some_block(cases, names, inside, depth - 1)
    if kind == 3:
        return ("wait",)
    if kind == 4 and inside:
        return "return", value
    if kind < 7:
        return "do", value
    return "set", cases.one(names), value


def some_tree(cases):
    """Make a tree that asks COMMANDS; nearly every one is valid."""
    functions = tuple((name, parameters, more, some_block(cases, (*VARIABLES, *parameters, *more), True, 2))
                      for name, parameters, more in FUNCTIONS)
    return VARIABLES, functions, some_block(cases, VARIABLES, False, 3)


def some_trees(many, seed):
    from helpers import Cases
    cases = Cases(seed)
    return [some_tree(cases) for _ in range(many)]


def plain_text(tree):
    """Write a tree by points 55 and 56, in another way than the program."""
    variables, functions, body = tree
    lines = [f"var {name};" for name in variables]
    for name, parameters, more, block in functions:
        lines += [f"func {name}({', '.join(parameters)}) {{"] + [f"  var {slot};" for slot in more]
        lines += block_text(block, 1) + ["}"]
    return "".join(line + "\n" for line in lines + block_text(body, 0))


def block_text(block, deep):
    lines = []
    for word, *rest in block:
        if word in ("if", "while"):
            lines.append("  " * deep + f"{word} {expression_text(rest[0])} {{")
            lines += block_text(rest[1], deep + 1)
            if word == "if" and rest[2] != ():
                lines += ["  " * deep + "} else {"] + block_text(rest[2], deep + 1)
            lines.append("  " * deep + "}")
        elif word == "set":
            lines.append("  " * deep + f"{rest[0]} = {expression_text(rest[1])};")
        else:
            lines.append("  " * deep + " ".join([word, *map(expression_text, rest)]) + ";")
    return lines


def expression_text(tree):
    word, *rest = tree
    if word in ("int", "name"):
        return str(rest[0])
    if word in ("call", "ask"):
        return ("@" if word == "ask" else "") + rest[0] + "(" + ", ".join(map(expression_text, rest[1])) + ")"
    if word in ("neg", "not"):
        inner = expression_text(rest[0])
        return ("-" if word == "neg" else "not ") + (f"({inner})" if rest[0][0] in LEVELS else inner)
    texts = []
    for index, operand in enumerate(rest):
        text = expression_text(operand)
        texts.append(f"({text})" if needs_parentheses(word, index, operand[0]) else text)
    return f" {TEXT_SIGNS[word]} ".join(texts)


def needs_parentheses(word, index, operand):
    """Tell it as the sentences of point 56 do."""
    if operand not in LEVELS:
        return False
    kind = {0: "or", 1: "and", 2: "comparison", 3: "sum", 4: "product"}
    outer, inner = kind[LEVELS[word]], kind[LEVELS[operand]]
    if outer == "product":
        return inner in ("sum", "comparison", "and", "or") or inner == "product" and index == 1
    if outer == "sum":
        return inner in ("comparison", "and", "or") or inner == "sum" and index == 1
    if outer == "comparison":
        return inner in ("comparison", "and", "or")
    if outer == "and":
        return inner == "or" or inner == "and" and index == 1
    return inner == "or" and index == 1


def parts(value):
    """Yield every path to a part of nested tuples."""
    yield ()
    if isinstance(value, tuple):
        for index, item in enumerate(value):
            for path in parts(item):
                yield (index, *path)


def part_at(value, path):
    for index in path:
        value = value[index]
    return value


def replaced(value, path, new):
    """Return nested tuples with another part at the path."""
    if not path:
        return new
    return (*value[:path[0]], replaced(value[path[0]], path[1:], new), *value[path[0] + 1:])


def wrap(n):
    return (n + 2 ** 31) % 2 ** 32 - 2 ** 31


class Stopped(Exception):
    """A script is stopped, or all that may be looked at has been."""


class Walk:
    """Runs a tree without a code, as points 60 and 63 tell what comes of it; `answers` are used up one by one."""

    def __init__(self, tree, answers, many):
        self.values = {name: 0 for name in tree[0]}
        self.functions = {row[0]: row for row in tree[1]}
        self.body = tree[2]
        self.answers = itertools.cycle(answers)
        self.events = []
        self.many = many
        self.steps = 0

    def run(self):
        try:
            self.block(self.body, None, 1)
            self.tell(("done",))
        except Stopped:
            pass
        return self.events

    def tell(self, event):
        self.events.append((event, tuple(self.values.values())))
        if len(self.events) == self.many:
            raise Stopped

    def block(self, block, slots, deep):
        """Return the value that is returned, or None."""
        for word, *rest in block:
            self.steps += 1
            if self.steps > 3000:
                raise Stopped
            if word == "wait":
                self.tell(("waits",))
            elif word == "if":
                value = self.block(rest[1] if self.value(rest[0], slots, deep) else rest[2], slots, deep)
                if value is not None:
                    return value
            elif word == "while":
                while self.value(rest[0], slots, deep):
                    value = self.block(rest[1], slots, deep)
                    if value is not None:
                        return value
                    self.steps += 1
                    if self.steps > 3000:
                        raise Stopped
            else:
                value = self.value(rest[-1], slots, deep)
                if word == "return":
                    return value
                if word == "set":
                    place = slots if slots is not None and rest[0] in slots else self.values
                    place[rest[0]] = value
        return None

    def value(self, tree, slots, deep):
        word, *rest = tree
        if word == "int":
            return rest[0]
        if word == "name":
            return slots[rest[0]] if slots is not None and rest[0] in slots else self.values[rest[0]]
        if word in ("and", "or"):
            first = self.value(rest[0], slots, deep)
            if bool(first) == (word == "or"):
                return int(bool(first))
            return int(bool(self.value(rest[1], slots, deep)))
        if word == "call":
            return self.call(rest[0], [self.value(item, slots, deep) for item in rest[1]], deep)
        if word == "ask":
            values = tuple(self.value(item, slots, deep) for item in rest[1])
            self.tell(("asks", rest[0], values))
            return wrap(next(self.answers))
        return self.operation(word, [self.value(item, slots, deep) for item in rest])

    def call(self, name, values, deep):
        if deep == 16:
            self.stop("deep")
        _, parameters, more, body = self.functions[name]
        slots = {**dict(zip(parameters, values)), **dict.fromkeys(more, 0)}
        value = self.block(body, slots, deep + 1)
        return 0 if value is None else value

    def stop(self, why):
        self.tell(("stopped", why))
        raise Stopped

    def operation(self, word, values):
        if word in ("div", "mod") and values[1] == 0:
            self.stop("division")
        results = {
            "neg": lambda a: -a, "not": lambda a: a == 0, "plus": lambda a, b: a + b, "minus": lambda a, b: a - b,
            "times": lambda a, b: a * b, "div": lambda a, b: a // b, "mod": lambda a, b: a - b * (a // b),
            "eq": lambda a, b: a == b, "ne": lambda a, b: a != b, "lt": lambda a, b: a < b, "le": lambda a, b: a <= b,
            "gt": lambda a, b: a > b, "ge": lambda a, b: a >= b,
        }
        return wrap(int(results[word](*values)))
