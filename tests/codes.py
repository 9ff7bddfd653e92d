"""Codes for the tests, made, judged and shortened in other ways than the program does."""

from scripts import LEVELS

LAST = 2 ** 31 - 1
MAIN = (("get", 0), ("unless", 4), ("call", 1), ("put", 0), ("end",))
INNER = (("load", 1), ("ask", "x", 1), ("return",))
# A sound code with two routines, one variable and a command.
CODE = (1, ((0, 0, MAIN), (0, 2, INNER)))
PLACED = ("jump", "unless", "and", "or")
TAKES = {**dict.fromkeys(("int", "get", "load", "jump", "wait", "end"), 0),
         **dict.fromkeys(("put", "store", "drop", "neg", "not", "truth", "unless", "and", "or", "return"), 1),
         **dict.fromkeys(("plus", "minus", "times", "div", "mod", "eq", "ne", "lt", "le", "gt", "ge"), 2)}
LAYS = ("int", "get", "load", "neg", "not", "truth", "plus", "minus", "times", "div", "mod", "eq", "ne", "lt", "le",
        "gt", "ge", "call", "ask")


def of_body(*instructions, count=1):
    return count, ((0, 0, instructions),)


def slow_code(tree):
    """Make the code of a tree with labels, which become places at last."""
    variables, functions, body = tree
    names = [row[0] for row in functions]
    routines = [(0, 0, placed(block_code(body, variables, (), names) + [("end",)]))]
    for _, parameters, more, block in functions:
        rows = block_code(block, variables, parameters + more, names) + [("int", 0), ("return",)]
        routines.append((len(parameters), len(parameters) + len(more), placed(rows)))
    return len(variables), tuple(routines)


def placed(rows):
    """Replace labels, which are objects that stand among the instructions, by places."""
    places, found = {}, []
    for row in rows:
        if isinstance(row, Label):
            places[row] = len(found)
        else:
            found.append(row)
    return tuple(tuple(places.get(item, item) if isinstance(item, Label) else item for item in row) for row in found)


class Label:
    pass


def block_code(block, *known):
    return [row for statement in block for row in statement_code(statement, *known)]


def statement_code(statement, variables, slots, names):
    known = variables, slots, names
    word, *rest = statement
    if word == "wait":
        return [("wait",)]
    if word == "set":
        return value_code(rest[1], *known) + [name_code(rest[0], variables, slots, "store", "put")]
    value = value_code(rest[0], *known)
    if word in ("do", "return"):
        return [*value, ("drop" if word == "do" else "return",)]
    first, second = Label(), Label()
    if word == "while":
        return [first, *value, ("unless", second), *block_code(rest[1], *known), ("jump", first), second]
    if rest[2] == ():
        return [*value, ("unless", first), *block_code(rest[1], *known), first]
    return [*value, ("unless", first), *block_code(rest[1], *known), ("jump", second), first,
            *block_code(rest[2], *known), second]


def name_code(name, variables, slots, of_slot, of_variable):
    return (of_slot, slots.index(name)) if name in slots else (of_variable, variables.index(name))


def value_code(tree, variables, slots, names):
    known = variables, slots, names
    word, *rest = tree
    if word == "int":
        return [tree]
    if word == "name":
        return [name_code(rest[0], variables, slots, "load", "get")]
    if word in ("and", "or"):
        label = Label()
        return [*value_code(rest[0], *known), (word, label), *value_code(rest[1], *known), ("truth",), label]
    if word in LEVELS or word in ("neg", "not"):
        return [row for operand in rest for row in value_code(operand, *known)] + [(word,)]
    rows = [row for operand in rest[1] for row in value_code(operand, *known)]
    return rows + [("ask", rest[0], len(rest[1])) if word == "ask" else ("call", names.index(rest[0]) + 1)]


def slow_heights(code):
    """Find the heights by looking at all places again until nothing changes; None if the code is not sound."""
    found = []
    for index, (_, _, rows) in enumerate(code[1]):
        known = {0: {0}}
        for _ in range(len(rows) + 1):
            for place, heights in list(known.items()):
                if place >= len(rows) or max(heights) > 300 or len(heights) > 1:
                    return None
                ways = slow_ways(code, index, place, min(heights))
                if ways is None:
                    return None
                for at, height in ways:
                    known.setdefault(at, set()).add(height)
        if any(place >= len(rows) or len(heights) > 1 or max(heights) > 300 for place, heights in known.items()):
            return None
        found.append([min(known[place]) if place in known else None for place in range(len(rows))])
    return found


def slow_ways(code, index, place, height):
    word, *rest = code[1][index][2][place]
    takes = code[1][rest[0]][0] if word == "call" else rest[1] if word == "ask" else TAKES[word]
    behind = height - takes + (word in LAYS)
    if height < takes or word == "return" and (index == 0 or height != 1) or word == "end" and (index or height):
        return None
    ways = [] if word in ("jump", "return", "end") else [(place + 1, behind)]
    if word in PLACED:
        ways.append((rest[0], height if word in ("and", "or") else behind))
    return ways


def slow_short(code):
    """Take out one place after another, as point 68 tells it."""
    code = aimed(code)
    while True:
        heights = slow_heights(code)
        bad = [(index, place) for index, (_, _, rows) in enumerate(code[1]) for place, row in enumerate(rows)
               if heights[index][place] is None or row == ("jump", place + 1)]
        if not bad:
            return code
        index, place = bad[0]
        routines = list(code[1])
        parameters, slots, rows = routines[index]
        rows = [(row[0], row[1] - (row[1] > place)) if row[0] in PLACED else row for row in rows]
        routines[index] = parameters, slots, tuple(rows[:place] + rows[place + 1:])
        code = aimed((code[0], tuple(routines)))


def aimed(code):
    return code[0], tuple((parameters, slots, tuple(
        (row[0], aim(rows, row[1])) if row[0] in PLACED else row for row in rows)) for parameters, slots, rows in code[1])


def aim(rows, place):
    at = place
    for _ in rows:
        if at < len(rows) and rows[at][0] == "jump":
            at = rows[at][1]
    return place if at < len(rows) and rows[at][0] == "jump" else at


def some_routine(cases, many, end):
    """Make instructions with many jumps; every second routine or so is sound."""
    rows = []
    while len(rows) < many:
        kind = cases.whole(0, 9)
        place = cases.whole(0, many + 1)
        if kind < 5:
            rows.append(("jump", place))
        elif kind == 5:
            rows.append(("wait",))
        elif kind < 8:
            rows += [("ask", "x", 0), (cases.one(("unless", "unless", "and", "or")), place), ("drop",)][:2 + (kind == 7)]
        else:
            rows += [("get", 0), ("int", 1), ("plus",), ("put", 0)]
    rows += end
    return tuple((row[0], min(row[1], len(rows) - 1)) if row[0] in PLACED else row for row in rows)


def some_codes(many, cases):
    """Make sound codes that are not those of trees."""
    found = []
    while len(found) < many:
        body = some_routine(cases, cases.whole(0, 8), [("end",)])
        inner = some_routine(cases, cases.whole(0, 6), [("int", 0), ("return",)])
        code = 1, ((0, 0, (("call", 1), ("drop",), *[(row[0], row[1] + 2) if row[0] in PLACED else row for row in body])),
                   (0, 1, inner))
        if slow_heights(code) is not None:
            found.append(code)
    return found
