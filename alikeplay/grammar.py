"""What can come in the text of a script, word by word."""

from alikeplay.scanning import RESERVED, SIGNS

NAME = "a name"
NUMBER = "a number"
END = "the end"

# What a part of the text can be, each way of it beginning with another word; () is nothing at all.
# What is no key of this table is a word itself. A pair tells how often a repetition can be made, or a sign can stand.
WAYS = {
    "variables": (("var", "a name", ";", "variables"), ()),
    "functions": (("func", "a name", "(", "parameters", ")", "{", "variables", "statements", "}", "functions"), ()),
    "parameters": (("a name", "more parameters"), ()),
    "more parameters": ((",", "a name", "more parameters"), ()),
    "statements": (
        ("a name", "=", "expression", ";", "statements"), ("do", "expression", ";", "statements"),
        ("if", "expression", "block", "second block", "statements"), ("while", "expression", "block", "statements"),
        ("wait", ";", "statements"), ("return", "expression", ";", "statements"), (),
    ),
    "block": (("{", "statements", "}"),),
    "second block": (("else", "block"), ()),
    "expression": (("conjunction", ("ors", 4)),),
    "conjunction": (("comparison", ("ands", 4)),),
    "comparison": (("sum", "second sum"),),
    "second sum": (
        ("==", "sum"), ("!=", "sum"), ("<", "sum"), ("<=", "sum"), (">", "sum"), (">=", "sum"), (),
    ),
    "sum": (("product", ("sums", 4)),),
    "product": ((("unary", 4), ("products", 4)),),
    "atom": (("a number",), ("a name", "call"), ("@", "a name", "arguments"), ("(", "expression", ")")),
    "call": (("arguments",), ()),
    "arguments": (("(", "values", ")"),),
    "values": (("expression", "more values"), ()),
    "more values": ((",", "expression", "more values"), ()),
}
# The repetitions that are limited: the words that begin one, and what stands behind the word.
SIGNS_REPEATED = {"ors": ("or",), "ands": ("and",), "sums": ("+", "-"), "products": ("*", "div", "mod")}
PARTS_REPEATED = {"ors": "conjunction", "ands": "comparison", "sums": "product", "products": ("unary", 4)}


def ways_of(part):
    """Return the ways in which a part that is no word can go on."""
    if isinstance(part, str):
        return WAYS[part]
    name, left = part
    if name == "unary":
        signs = ("-", "not") if left > 0 else ()
        return tuple([("atom",)] + [(sign, (name, left - 1)) for sign in signs])
    signs = SIGNS_REPEATED[name] if left > 0 else ()
    return tuple([(sign, PARTS_REPEATED[name], (name, left - 1)) for sign in signs] + [()])


def is_word(part):
    """Tell whether the part is a word itself."""
    return isinstance(part, str) and part not in WAYS


def first_words(part):
    """Return the list of the words with which the part can begin."""
    if is_word(part):
        return [part]
    found = []
    for way in ways_of(part):
        if way:
            found.extend(first_words(way[0]))
    return found


class Place:
    """A place in a text of the grammar: the parts that stand behind it, the next one last."""

    def __init__(self):
        self.parts = [END, "statements", "functions", "variables"]

    def words(self):
        """Return the list of the words that can come, in the order in which they are told."""
        found = []
        for part in self.parts[::-1]:
            found.extend(first_words(part))
            if is_word(part) or () not in ways_of(part):
                break
        return [word for word in (NAME, NUMBER, *RESERVED, *SIGNS, END) if word in found]

    def take(self, word):
        """Go behind a word that can come."""
        part = self.parts.pop()
        while part != word:
            for way in ways_of(part):
                if way == () or word in first_words(way[0]):
                    self.parts.extend(way[::-1])
                    break
            part = self.parts.pop()
