import time
import unittest

from fewprobes.errors import InvalidText
from fewprobes.readings import lines, read_source, wrong_at
from fewprobes.sources import is_source
from samples import odd_values

X, Y, Z = ("name", "x"), ("name", "y"), ("name", "z")


def number(n):
    return ("number", n)


def rows_of(text):
    """The statements that a text of statements tells."""
    source = read_source("fun f() {" + text + "}")
    return source[1][0][2]


def told(text):
    """The expression that a text tells."""
    return rows_of("return " + text + ";")[0][1]


def place_in(text):
    """The column of the first wrong token of a text of statements in one line, counted there."""
    line, column = wrong_at("fun f() {" + text)
    return (line, column - 9)


class TheTable(unittest.TestCase):
    """[8]"""

    def test_sources_and_functions(self):
        self.assertEqual(read_source("fun f() { }"), ("source", [("f", [], [])]))
        self.assertEqual(read_source("fun f(a) { } fun g(b, c) { leave; }"), (
            "source", [("f", ["a"], []), ("g", ["b", "c"], [("leave",)])],
        ))

    def test_each_statement(self):
        for text, statement in [
            ("x = y;", ("set", "x", Y)), ("x = call g();", ("call", "x", "g", [])),
            ("x = call g(y, 1, z < x);", ("call", "x", "g", [Y, number(1), ("less", Z, X)])),
            ("read x;", ("read", "x")), ("print x;", ("print", X)),
            ("if x { }", ("if", X, [], [])), ("if x { read y; }", ("if", X, [("read", "y")], [])),
            ("if x { read y; } else { leave; again; }", ("if", X, [("read", "y")], [("leave",), ("again",)])),
            ("if x { } else { }", ("if", X, [], [])),
            ("while x { read x; }", ("while", X, [("read", "x")])), ("while 1 { }", ("while", number(1), [])),
            ("try { read x; } catch z { read y; }", ("try", [("read", "x")], "z", [("read", "y")])),
            ("try { } catch z { }", ("try", [], "z", [])),
            ("leave;", ("leave",)), ("again;", ("again",)), ("return x;", ("return", X)),
            ("raise 0;", ("raise", number(0))),
        ]:
            with self.subTest(text):
                self.assertEqual(rows_of(text), [statement])

    def test_statements_stand_in_order(self):
        self.assertEqual(rows_of("read x; if x { print y; read y; } read z;"), [
            ("read", "x"), ("if", X, [("print", Y), ("read", "y")], []), ("read", "z"),
        ])

    def test_signs(self):
        for sign, word in [("<", "less"), ("==", "same"), ("+", "plus"), ("-", "minus"), ("*", "times"),
                           ("over", "over"), ("rest", "rest")]:
            self.assertEqual(told(f"x {sign} y"), (word, X, Y))

    def test_from_the_left(self):
        self.assertEqual(told("x - y - z"), ("minus", ("minus", X, Y), Z))
        self.assertEqual(told("x + y - z + x"), ("plus", ("minus", ("plus", X, Y), Z), X))
        self.assertEqual(told("x over y rest z * x"), ("times", ("rest", ("over", X, Y), Z), X))

    def test_what_holds_more_tightly(self):
        self.assertEqual(told("x + y * z"), ("plus", X, ("times", Y, Z)))
        self.assertEqual(told("x * y - z"), ("minus", ("times", X, Y), Z))
        self.assertEqual(told("x - y < z over x"), ("less", ("minus", X, Y), ("over", Z, X)))
        self.assertEqual(told("x == y + z"), ("same", X, ("plus", Y, Z)))

    def test_parentheses(self):
        self.assertEqual(told("(x)"), X)
        self.assertEqual(told("((x + y)) * z"), ("times", ("plus", X, Y), Z))
        self.assertEqual(told("x - (y - z)"), ("minus", X, ("minus", Y, Z)))
        self.assertEqual(told("(x < y) == (y < z)"), ("same", ("less", X, Y), ("less", Y, Z)))
        self.assertEqual(told("x + (y == 0)"), ("plus", X, ("same", Y, number(0))))

    def test_equal_signs_two_by_two_from_the_left(self):
        self.assertEqual(told("x==y"), ("same", X, Y))
        self.assertEqual(rows_of("x=y==z;"), [("set", "x", ("same", Y, Z))])
        self.assertEqual(place_in("x=y===z;"), (1, 6))
        self.assertEqual(place_in("x==y;"), (1, 2))
        self.assertEqual(place_in("x = = y;"), (1, 5))
        self.assertEqual(place_in("return x= =y;"), (1, 9))
        self.assertEqual(place_in("return x====y;"), (1, 11))

    def test_numbers(self):
        for n in [0, 7, 10, 10 ** 30 - 1]:
            self.assertEqual(told(str(n)), number(n))
        for text in [str(10 ** 30), "1" * 31, "00", "01", "007", "7x", "0x", "1" + "a" * 40]:
            with self.subTest(text):
                self.assertEqual(place_in(f"return {text};"), (1, 8))
                self.assertEqual(place_in(f"return x + {text};"), (1, 12))

    def test_words(self):
        self.assertEqual(rows_of(f"read {'a' * 30};"), [("read", "a" * 30)])
        for word in ["a" * 31, "x1", "x1y", "while", "fun", "over", "call", "catch"]:
            with self.subTest(word):
                self.assertEqual(place_in(f"read {word};"), (1, 6))
        self.assertEqual(rows_of("read ifx; read fung;"), [("read", "ifx"), ("read", "fung")])
        self.assertEqual(wrong_at("fun f1() { }"), (1, 5))
        self.assertEqual(wrong_at("fun f(a1) { }"), (1, 7))

    def test_blanks_tabs_line_ends_and_remarks(self):
        close = ("source", [("f", ["a"], [("set", "x", ("plus", number(1), Y))])])
        for text in [
            "fun f(a){x=1+y;}", "\n\n\tfun \n f\t( a )\n{ x\n=\n1\n+\ny\n;\n}\n\n", "fun f(a){x=1+y;}#",
            "#a\nfun f(a){x=1+y;}",
            "fun#fun g\nf#\n(#(\na#,\n)#)\n{#}\nx#= 2\n=#=\n1#0\n+#-\ny#z\n;#;\n}#}", "fun f(a){x=1+y;}# fun",
            "fun f(a){x=1+y;}\n# the end\n", "# one # two\n## \nfun f(a){x=1+y;}",
        ]:
            with self.subTest(text):
                self.assertEqual(read_source(text), close)
                self.assertIsNone(wrong_at(text))

    def test_a_remark_ends_with_its_line(self):
        self.assertEqual(rows_of("read x; # read y;\nread z;"), [("read", "x"), ("read", "z")])

    def test_tokens_apart_are_no_one_token(self):
        self.assertEqual(place_in("read x y;"), (1, 8))
        self.assertEqual(place_in("return 1 2;"), (1, 10))
        self.assertEqual(wrong_at("fu n f() { }"), (1, 1))
        self.assertEqual(wrong_at("funf() { }"), (1, 1))

    def test_texts_that_tell_no_source(self):
        for text in ["fun f() { leave; }", "fun f() { } fun f() { }", "fun f(a, a) { }", "fun f() { x = call g(); }",
                     "fun f(a) { x = call f(); }", "fun f() { }" * 9, "fun f() {" + "read x;" * 40 + "}",
                     "fun f(a, b, c, d, e, g, h) { }", "fun f() { x = call f(1, 2, 3, 4, 5, 6, 7); }"]:
            with self.subTest(text):
                self.assertIsNone(wrong_at(text))
                self.assertIs(is_source(read_source(text)), False)


class WrongTokens(unittest.TestCase):
    """[8]"""

    def test_the_first_wrong_token(self):
        for text, place in [
            ("", (1, 1)), ("\n", (2, 1)), (" \t", (1, 3)), ("#", (1, 2)), ("# fun f() { }", (1, 14)),
            ("#\n\n ", (3, 2)),
            ("x", (1, 1)), ("fun", (1, 4)), ("fun (", (1, 5)), ("fun f {", (1, 7)), ("fun f(,", (1, 7)),
            ("fun f(a b", (1, 9)), ("fun f(a,) { }", (1, 9)), ("fun f() }", (1, 9)), ("fun f()\n\n  x", (3, 3)),
            ("fun f() { } }", (1, 13)), ("fun f() { }\nread x;", (2, 1)), ("fun f() { } fun", (1, 16)),
            ("fun f() {", (1, 10)),
            ("fun f() { # }", (1, 14)), ("fun f() { # }\n", (2, 1)), ("fun f() { }#\n\t?", (2, 2)),
            ("fun f(fun) { }", (1, 7)), ("fun while() { }", (1, 5)),
        ]:
            with self.subTest(text):
                self.assertEqual(wrong_at(text), place)

    def test_in_each_kind_of_statement(self):
        for text, column in [
            ("x", 2), ("x y", 3), ("x =", 4), ("x = ;", 5), ("x = y", 6), ("x = y y", 7), ("x = y }", 7),
            ("x = read", 5),
            ("x = call", 9), ("x = call (", 10), ("x = call g", 11), ("x = call g;", 11), ("x = call g(", 12),
            ("x = call g(,", 12), ("x = call g(x", 13), ("x = call g(x,)", 14), ("x = call g(x))", 14),
            ("x = call g() + 1;", 14), ("x = call g() }", 14), ("x = 1 + call g();", 9), ("call g();", 1),
            ("read", 5), ("read 1", 6), ("read x", 7), ("read x, y;", 7), ("read (x);", 6), ("read x = 1", 8),
            ("print", 6), ("print ;", 7), ("print x", 8), ("print x, y;", 8), ("print call g();", 7),
            ("if", 3), ("if {", 4), ("if x", 5), ("if x read y;", 6), ("if x { ", 8), ("if x { } else", 14),
            ("if x { } else read y;", 15), ("if x { } else if y { }", 15), ("if x { } else { } else { }", 19),
            ("else { }", 1),
            ("if x { }; ", 9), ("if x = y { }", 6),
            ("while", 6), ("while {", 7), ("while x;", 8), ("while x { } else { }", 13),
            ("try", 4), ("try x", 5), ("try { }", 8), ("try { } read x;", 9), ("try { } catch", 14),
            ("try { } catch {", 15),
            ("try { } catch 1 {", 15), ("try { } catch x", 16), ("try { } catch x;", 16), ("catch x { }", 1),
            ("leave", 6), ("leave x;", 7), ("leave 1;", 7), ("again", 6), ("again }", 7),
            ("return", 7), ("return;", 7), ("return x", 9), ("raise;", 6), ("raise x y;", 9), ("raise }", 7),
            (";", 1), ("{ }", 1), ("1 = x;", 1), ("(x) = 1;", 1), ("fun g() { }", 1), ("over = 1;", 1), ("rest;", 1),
        ]:
            with self.subTest(text):
                self.assertEqual(place_in(text), (1, column))

    def test_in_expressions(self):
        for text, column in [
            ("x +", 4), ("x + ;", 5), ("x + + y", 5), ("+ x", 1), ("- 1", 1), ("x over", 7), ("x over over", 8),
            ("over x", 1),
            ("x < y < z", 7), ("x == y == z", 8), ("x < y == z", 7), ("x < ", 5), ("(x", 3), ("(x;", 3), ("()", 2),
                ("(x))", 4),
            ("x (y)", 3), ("(x) y", 5), ("x = y", 3), ("x - * y", 5), ("((x) + ", 8), ("x { }", 3), ("x rest 0y", 8),
        ]:
            with self.subTest(text):
                self.assertEqual(place_in("return " + text), (1, column + 7))

    def test_signs_that_are_no_token(self):
        for sign in "!\"$%&'./:>?@[\\]^_`|~ABZ":
            with self.subTest(sign):
                self.assertEqual(place_in(f"read x; {sign} read y;"), (1, 9))
                self.assertEqual(place_in(f"read {sign};"), (1, 6))
                self.assertEqual(wrong_at(sign), (1, 1))
                self.assertEqual(wrong_at(f"fun f() {{ }}\n {sign}"), (2, 2))
                self.assertIsNone(wrong_at(f"fun f() {{ }} # {sign}"))

    def test_a_sign_beside_letters_is_one_by_itself(self):
        self.assertEqual(place_in("read x_y;"), (1, 7))
        self.assertEqual(place_in("read xY;"), (1, 7))
        self.assertEqual(place_in("read Xy;"), (1, 6))

    def test_tabs_count_as_one_character(self):
        self.assertEqual(wrong_at("\tfun\t\tf() { }\n\t\t?"), (2, 3))

    def test_what_is_wrong_ahead_hides_what_is_wrong_behind(self):
        self.assertEqual(place_in("read ; ? 00"), (1, 6))

    def test_a_beginning_that_could_go_on_is_wrong_at_its_end(self):
        text = "fun f(a, b) { x = call g(a + 1, (b)); if x < 2 { leave; } else { try { raise 1; } catch y { } } while 0 { } }"
        for many in range(len(text)):
            if not text[many - 1:many].isalnum():
                self.assertEqual(wrong_at(text[:many]), (1, many + 1))
        self.assertIsNone(wrong_at(text))


class Lines(unittest.TestCase):
    """[8]"""

    def test_lines_of_statements_in_their_order(self):
        text = "fun f() {\n\n read x; x\n=\n1;\nif x\n{ print x;\n} else { leave\n; }\n}\nfun g() { try {\nread y; } catch z {\nread z; } }"
        self.assertEqual(lines(text), [3, 3, 6, 7, 8, 11, 12, 13])

    def test_without_statements(self):
        self.assertEqual(lines("fun f() { }"), [])

    def test_remarks_count_as_lines(self):
        self.assertEqual(lines("# a\nfun f() { # b\n# c\nread x; # d\n while 1 {\n again; } }"), [4, 5, 6])

    def test_of_no_source(self):
        self.assertEqual(lines("fun f() {\nleave; }"), [2])


class Limits(unittest.TestCase):
    """[3], [8]"""

    def test_depth(self):
        deep = "(" * 11 + "x" + ")" * 11
        self.assertEqual(told(deep), X)
        deep = "x - (" * 11 + "x" + ")" * 11
        self.assertEqual(len(repr(told(deep)).split("minus")), 12)
        rows = "while 1 { if x { try { " * 4
        self.assertIsNone(wrong_at("fun f() { " + rows + "} catch x { } } } " * 4 + "}"))

    def test_somewhat_deeper(self):
        deep = "(" * 900 + "x" + ")" * 900
        self.assertEqual(told(deep), X)
        self.assertEqual(place_in("return " + "(" * 900), (1, 908))

    def test_long_texts_within_seconds(self):
        begin = time.perf_counter()
        for text, many in [
            ("fun f() {" + "x=1;" * 4997 + "}", 4997), ("fun f() {" + "\n" * 19980 + "}", 0), ("fun f(){}" * 2222, 0),
            ("fun f() { x = 1" + "+1" * 9980 + "; }", 1),
            ("fun f() { read " + "a" * 30 + "; # " + "#" * 19940 + "\n}", 1),
        ]:
            self.assertLessEqual(len(text), 20000)
            self.assertEqual(len(lines(text)), many)
            self.assertIsNone(wrong_at(text))
        self.assertEqual(wrong_at("a" * 20000), (1, 1))
        self.assertEqual(wrong_at("fun f(){}" + " " * 19000), None)
        self.assertLess(time.perf_counter() - begin, 10)


class Refusals(unittest.TestCase):
    """[2], [8]"""

    def refused(self, function, text, value):
        with self.assertRaises(InvalidText) as caught:
            function(text)
        self.assertEqual(caught.exception.value, value)
        return caught.exception.value

    def test_what_is_no_string(self):
        for value in odd_values():
            if not isinstance(value, str):
                for function in [read_source, lines, wrong_at]:
                    self.assertIs(self.refused(function, value, value), value)

    def test_what_follows_the_table_nowhere(self):
        for text in ["", "x", "fun f() {", "fun f() { x1 = 3; }", "fun f() { }\n  ?", "fun f()\n{ read 01; }"]:
            for function in [read_source, lines]:
                with self.subTest(text):
                    self.assertIs(type(self.refused(function, text, wrong_at(text))), tuple)

    def test_each_list_is_a_new_one(self):
        text = "fun f(a) { if a { } x = call f(1); }"
        first = read_source(text)
        first[1][0][1].append("b")
        first[1][0][2][0][2].append("b")
        first[1][0][2][1][3].clear()
        held = lines(text)
        held.clear()
        self.assertEqual(read_source(text), ("source", [
            ("f", ["a"], [("if", ("name", "a"), [], []), ("call", "x", "f", [number(1)])]),
        ]))
        self.assertEqual(lines(text), [1, 1])

    def test_by_name(self):
        self.assertEqual(read_source(text="fun f() { }"), ("source", [("f", [], [])]))
        self.assertEqual([lines(text="fun f() { }"), wrong_at(text="")], [[], (1, 1)])
