"""Points 55 to 58: the texts of trees."""

import itertools
import unittest

from alikeplay.checking import is_tree, read_script
from alikeplay.writing import script_text
from helpers import NO_TUPLES, check_arguments, check_pure
from scripts import BINARY, COMMANDS, expression_text, needs_parentheses, plain_text, some_trees

A, B, C = ("name", "a"), ("name", "b"), ("name", "c")
# Each operation with two operands, and what its kind is called.
KINDS = {"or": "or", "and": "and", "eq": "comparison", "ge": "comparison", "plus": "sum", "minus": "sum",
         "times": "product", "div": "product", "mod": "product"}
NO_TREES = (
    *NO_TUPLES, (), ((), ()), ((), (), [()]), ((), (), (("do", A),)), ((), (), (("return", ("int", 1)),)),
    ((), (), (("do", ("ask", "or", ())),)), ((), (), (("do", ("ask", "x" * 13, ())),)),
    ((), (), (("do", ("ask", "x", ())), ("do", ("ask", "x", (("int", 1),))))),
    ((), (), (("do", ("ask", "x", (("int", 1),) * 5)),)),
    ((), (), tuple(("do", ("ask", f"c{k}", ())) for k in range(41))),
    ((), (), (("do", ("call", "f", ())),)), ((), (), (("do", ("int", True)),)),
)


def written(expression):
    """Return the text of an expression as a statement has it."""
    text = script_text((("a", "b", "c"), (("f", ("p",), (), ()),), (("do", expression),)))
    return text.split("\n")[-2][3:-1]


class TextTests(unittest.TestCase):
    def test_layout(self):
        inner = (("if", A, (("set", "a", ("int", 1)), ("wait",)), (("do", A),)), ("while", B, ()), ("return", B))
        tree = (("a", "b"), (("f", (), (), ()), ("g", ("p", "q"), ("r", "s"), inner)), (
            ("if", A, (), ()), ("if", A, (), (("while", B, (("if", A, (("wait",),), ()),)),)), ("set", "b", A)))
        self.assertEqual(check_pure(self, script_text, tree), """var a;
var b;
func f() {
}
func g(p, q) {
  var r;
  var s;
  if a {
    a = 1;
    wait;
  } else {
    do a;
  }
  while b {
  }
  return b;
}
if a {
}
if a {
} else {
  while b {
    if a {
      wait;
    }
  }
}
b = a;
""")
        self.assertEqual(script_text(((), (), ())), "")

    def test_expressions(self):
        for expression, text in (
            (("int", 0), "0"), (("int", 2147483647), "2147483647"), (("neg", ("int", 7)), "-7"),
            (("neg", ("neg", A)), "--a"), (("not", ("not", A)), "not not a"), (("not", ("neg", A)), "not -a"),
            (("neg", ("not", A)), "-not a"), (("minus", A, ("neg", B)), "a - -b"), (("neg", ("plus", A, B)), "-(a + b)"),
            (("not", ("eq", A, B)), "not (a == b)"), (("eq", ("not", A), B), "not a == b"),
            (("times", ("neg", A), ("not", B)), "-a * not b"), (("neg", ("times", A, B)), "-(a * b)"),
            (("call", "f", (("plus", A, B),)), "f(a + b)"), (("neg", ("call", "f", (A,))), "-f(a)"),
            (("ask", "me", ()), "@me()"), (("ask", "x", (("or", A, B), ("neg", C))), "@x(a or b, -c)"),
            (("times", ("plus", A, B), C), "(a + b) * c"), (("plus", ("times", A, B), C), "a * b + c"),
            (("minus", A, ("minus", B, C)), "a - (b - c)"), (("minus", ("minus", A, B), C), "a - b - c"),
            (("lt", ("lt", A, B), C), "(a < b) < c"), (("lt", A, ("lt", B, C)), "a < (b < c)"),
            (("or", ("or", A, B), C), "a or b or c"), (("or", A, ("or", B, C)), "a or (b or c)"),
        ):
            self.assertEqual(written(expression), text)

    def test_signs(self):
        self.assertEqual([written((word, A, B)) for word in BINARY], [
            "a + b", "a - b", "a * b", "a div b", "a mod b", "a == b", "a != b", "a < b", "a <= b", "a > b", "a >= b",
            "a and b", "a or b"])

    def test_each_kind_in_each_other(self):
        for outer, inner in itertools.product(KINDS, KINDS):
            for index, tree in enumerate(((outer, (inner, A, B), C), (outer, A, (inner, B, C)))):
                self.assertEqual("(" in written(tree), needs_parentheses(outer, index, inner), tree)
                self.assertEqual(written(tree), expression_text(tree))

    def test_parentheses_only_where_reading_asks_for_them(self):
        """Without its parentheses, each text would be read as another tree, or not at all."""
        for outer, inner in itertools.product(BINARY, BINARY):
            for tree in ((outer, (inner, A, B), C), (outer, A, (inner, B, C))):
                text = written(tree)
                bare = text.replace("(", "").replace(")", "")
                trees = []
                for some in (text, bare):
                    try:
                        trees.append(read_script(f"var a; var b; var c; do {some};", [])[2][0][1])
                    except ValueError:
                        trees.append(None)
                self.assertEqual(trees[0], tree)
                self.assertEqual(trees[1] == tree, text == bare, text)

    def test_word_by_word(self):
        for tree in some_trees(200, 41):
            self.assertIs(is_tree(tree, COMMANDS), True)
            self.assertEqual(script_text(tree), plain_text(tree))

    def test_other_trees_have_other_texts(self):
        trees = some_trees(300, 42)
        texts = {script_text(tree): tree for tree in trees}
        self.assertEqual(len(texts), len({repr(tree) for tree in trees}))

    def test_trees_for_any_commands(self):
        many = tuple(("do", ("ask", f"c{k}", (A,) * (k % 5))) for k in range(40))
        self.assertEqual(script_text((("a",), (), many + many)).count("@"), 80)

    def test_errors(self):
        check_arguments(self, script_text, (((), (), ()),), (("tree", NO_TREES),))


if __name__ == "__main__":
    unittest.main()
