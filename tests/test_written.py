import copy
import unittest

from fewprobes.errors import InvalidProgram
from fewprobes.readings import lines, read_source, written
from fewprobes.sources import how_many_statements, is_source
from makers import chance, some_expression, some_source
from samples import full_source, odd_values, of_rows

X, Y, Z = ("name", "x"), ("name", "y"), ("name", "z")
LEVELS = {"less": 0, "same": 0, "plus": 1, "minus": 1, "times": 2, "over": 2, "rest": 2}
SIGNS = {"less": "<", "same": "==", "plus": "+", "minus": "-", "times": "*", "over": "over", "rest": "rest"}


def text_of(expression):
    """How an expression is written."""
    text = written(of_rows([("return", expression)]))
    begin, end = "fun main() {\n  return ", ";\n}\n"
    assert text.startswith(begin) and text.endswith(end)
    return text[len(begin):-len(end)]


class Layout(unittest.TestCase):
    """[9]"""

    def test_each_statement(self):
        for statement, held in [
            (("set", "x", Y), ["x = y;"]), (("read", "x"), ["read x;"]), (("print", ("number", 12)), ["print 12;"]),
            (("call", "x", "main", []), ["x = call main();"]),
            (("if", X, [], []), ["if x {", "}"]), (("if", X, [("read", "x")], []), ["if x {", "  read x;", "}"]),
            (("if", X, [], [("read", "x")]), ["if x {", "} else {", "  read x;", "}"]),
            (("if", X, [("read", "y")], [("read", "x")]), ["if x {", "  read y;", "} else {", "  read x;", "}"]),
            (("while", ("less", X, Y), [("leave",), ("again",)]), ["while x < y {", "  leave;", "  again;", "}"]),
            (("while", X, []), ["while x {", "}"]),
            (("try", [("read", "x")], "z", [("read", "y")]), ["try {", "  read x;", "} catch z {", "  read y;", "}"]),
            (("try", [], "z", []), ["try {", "} catch z {", "}"]),
            (("return", X), ["return x;"]), (("raise", X), ["raise x;"]),
        ]:
            with self.subTest(repr(statement)):
                text = "".join(f"  {line}\n" for line in held)
                self.assertEqual(written(of_rows([statement])), "fun main() {\n" + text + "}\n")

    def test_functions(self):
        self.assertEqual(written(("source", [("main", [], []), ("f", ["a"], []), ("g", ["a", "b"], [])])),
                         "fun main() {\n}\nfun f(a) {\n}\nfun g(a, b) {\n}\n")

    def test_given_expressions(self):
        call = ("call", "x", "f", [("less", X, Y), ("times", ("plus", X, Y), Z)])
        self.assertIn("  x = call f(x < y, (x + y) * z);\n", written(("source", [("f", ["a", "b"], [call])])))

    def test_statements_within_one_another(self):
        inner = ("if", X, [("try", [("leave",)], "y", [("again",)])], [("read", "x")])
        self.assertEqual(written(of_rows([("while", X, [inner, ("print", X)])])), "\n".join([
            "fun main() {", "  while x {", "    if x {", "      try {", "        leave;", "      } catch y {",
            "        again;", "      }", "    } else {", "      read x;", "    }", "    print x;", "  }", "}", "",
        ]))


class Parentheses(unittest.TestCase):
    """[9]"""

    def test_each_sign_within_each_sign_on_either_side(self):
        for outer in LEVELS:
            for inner in LEVELS:
                held = (inner, X, Y)
                text = f"x {SIGNS[inner]} y"
                free = LEVELS[inner] >= LEVELS[outer] if LEVELS[outer] else LEVELS[inner] > 0
                left = text if free else f"({text})"
                self.assertEqual(text_of((outer, held, Z)), f"{left} {SIGNS[outer]} z")
                right = text if LEVELS[inner] > LEVELS[outer] else f"({text})"
                self.assertEqual(text_of((outer, Z, held)), f"z {SIGNS[outer]} {right}")

    def test_some_at_once(self):
        self.assertEqual(text_of(("plus", ("minus", X, ("minus", Y, Z)), ("times", X, ("less", Y, Z)))),
                         "x - (y - z) + x * (y < z)")
        self.assertEqual(text_of(("less", ("less", X, Y), ("same", Y, Z))), "(x < y) < (y == z)")
        self.assertEqual(text_of(("over", ("plus", X, Y), ("plus", Y, Z))), "(x + y) over (y + z)")

    def test_none_at_the_beginning(self):
        for word in ["if", "while", "print", "return", "raise"]:
            self.assertEqual(read_source(written(read_source(f"fun f() {{ {word} (x < y) " + (
                "{ } }" if word in ("if", "while") else "; }")))), read_source(f"fun f() {{ {word} x < y " + (
                    "{ } }" if word in ("if", "while") else "; }")))

    def test_no_pair_can_be_left_out(self):
        for seed in range(200):
            dice = chance(seed)
            expression = some_expression(dice, 5)
            text = "fun f() { return " + text_of(expression) + "; }"
            self.assertEqual(read_source(text)[1][0][2], [("return", expression)])
            for begin in [at for at, sign in enumerate(text) if sign == "(" and at > 6]:
                end, depth = begin, 1
                while depth:
                    end += 1
                    depth += {"(": 1, ")": -1}.get(text[end], 0)
                shorter = text[:begin] + " " + text[begin + 1:end] + " " + text[end + 1:]
                try:
                    self.assertNotEqual(read_source(shorter)[1][0][2], [("return", expression)])
                except ValueError:
                    pass


class ReadingBack(unittest.TestCase):
    """[9]"""

    def test_many_sources(self):
        for source in [full_source()] + [some_source(chance(seed)) for seed in range(300)]:
            text = written(source)
            self.assertEqual(read_source(text), source)
            self.assertEqual(written(read_source(text)), text)
            self.assertEqual(len(lines(text)), how_many_statements(source))
            self.assertTrue(text.endswith("}\n"))

    def test_deep_expressions_and_statements(self):
        deep = X
        for _ in range(300):
            deep = ("minus", Y, deep)
        rows = [("print", deep)]
        for _ in range(38):
            rows = [("while", X, rows)]
        source = of_rows(rows)
        self.assertIs(is_source(source), True)
        self.assertEqual(read_source(written(source)), source)
        self.assertIn("\n" + "  " * 39 + "print y - (y - ", written(source))


class Refusals(unittest.TestCase):
    """[2], [9]"""

    def test_what_is_no_source(self):
        for value in odd_values() + [of_rows([("leave",)]), ("source", []), of_rows([("print", ("number", -1))])]:
            with self.assertRaises(InvalidProgram) as caught:
                written(value)
            self.assertIs(caught.exception.value, value)

    def test_nothing_is_changed(self):
        source = full_source()
        before = copy.deepcopy(source)
        written(source=source)
        self.assertEqual(source, before)
