import copy
import unittest

from fewprobes.errors import InvalidProgram
from fewprobes.sources import how_many_statements, is_source
from samples import (
    at, each_place, full_source, many_plain_words, nested, odd_values, of_rows, swapped, with_put,
)

ONE = ("number", 1)
SIGNS = ["plus", "minus", "times", "over", "rest", "less", "same"]
RESERVED = "again call catch else fun if leave over print raise read rest return try while".split()


def of_statement(statement):
    """A source in which a statement may call main with none and f with two expressions."""
    return ("source", [("main", [], [statement]), ("f", ["p", "q"], [])])


def in_nested(statement, depth, wrap):
    for _ in range(depth):
        statement = wrap(statement)
    return statement


class Judging(unittest.TestCase):
    def right(self, value, many):
        self.assertIs(is_source(value), True)
        self.assertEqual(how_many_statements(value), many)

    def wrong(self, value):
        self.assertIs(is_source(value), False)
        with self.assertRaises(InvalidProgram) as caught:
            how_many_statements(value)
        self.assertIs(caught.exception.value, value)


class RightSources(Judging):
    """[6]"""

    def test_each_statement_and_expression(self):
        self.right(full_source(), 17)

    def test_each_statement_by_itself(self):
        for statement in [
            ("set", "x", ONE), ("read", "x"), ("print", ONE), ("call", "x", "main", []), ("call", "x", "f", [ONE, ONE]),
            ("if", ONE, [], []), ("while", ONE, []), ("try", [], "x", []), ("return", ONE), ("raise", ONE),
        ]:
            with self.subTest(repr(statement)):
                self.right(of_statement(statement), 1)

    def test_each_sign(self):
        for sign in SIGNS:
            self.right(of_statement(("print", (sign, ONE, ("name", "x")))), 1)

    def test_counts(self):
        for n in [0, 1, 10 ** 30 - 1, 10 ** 70]:
            self.right(of_statement(("print", ("number", n))), 1)

    def test_numbers_of_functions(self):
        for many in [1, 8]:
            self.right(("source", [(name, [], []) for name in many_plain_words(many)]), 0)

    def test_numbers_of_parameters_and_given_expressions(self):
        for many in range(7):
            called = ("f", many_plain_words(many), [])
            self.right(("source", [("main", [], [("call", "x", "f", [ONE] * many)]), called]), 1)

    def test_no_rows(self):
        self.right(of_rows([]), 0)

    def test_39_statements_side_by_side(self):
        self.right(of_rows([("read", "x")] * 39), 39)
        rows = [("read", "x")] * 39
        self.right(("source", [(name, [], rows) for name in many_plain_words(8)]), 8 * 39)

    def test_39_statements_with_those_within_others(self):
        self.right(of_rows([("if", ONE, [("read", "x")] * 18, [("read", "x")] * 20)]), 39)
        self.right(of_rows([("try", [("read", "x")] * 20, "x", [("read", "x")] * 18)]), 39)
        self.right(of_rows([("while", ONE, [("read", "x")] * 37), ("read", "x")]), 39)
        deep = in_nested(("read", "x"), 9, lambda inner: ("if", ONE, [inner], [("read", "x")]))
        self.right(of_rows([deep] + [("read", "x")] * 20), 39)

    def test_names_may_be_shared(self):
        self.right(("source", [("x", ["x"], [("call", "x", "x", [("name", "x")])])]), 1)
        self.right(("source", [("f", ["a"], []), ("g", ["a"], [])]), 0)

    def test_words_of_30_letters(self):
        word = "abcdefghijklmnopqrstuvwxyzabcd"
        self.right(("source", [(word, [word], [("set", word, ("name", word))])]), 1)

    def test_words_of_statements_that_are_not_reserved(self):
        for word in ["set", "number", "name", "plus", "less", "same", "source", "main", "end"]:
            self.right(("source", [(word, [word], [("set", word, ("name", word))])]), 1)

    def test_leave_and_again_deep_within_a_while(self):
        for statement in [("leave",), ("again",)]:
            wraps = [
                lambda inner: ("if", ONE, [inner], []), lambda inner: ("if", ONE, [], [inner]),
                lambda inner: ("try", [inner], "x", []), lambda inner: ("try", [], "x", [inner]),
                lambda inner: ("while", ONE, [inner]),
            ]
            self.right(of_rows([("while", ONE, [statement])]), 2)
            for wrap in wraps:
                for depth in [1, 2, 7]:
                    inner = in_nested(statement, depth, wrap)
                    self.right(of_rows([("while", ONE, [("read", "x"), inner])]), depth + 3)
            self.right(of_rows([("if", ONE, [("while", ONE, [statement, statement])], [])]), 4)

    def test_statements_within_others_at_the_limit_of_depth(self):
        deep = in_nested(("read", "x"), 11, lambda inner: ("if", ONE, [], [inner]))
        self.right(of_rows([deep]), 12)
        deep = in_nested(("read", "x"), 11, lambda inner: ("try", [inner], "x", []))
        self.right(of_rows([deep]), 12)

    def test_expressions_at_the_limit_of_depth(self):
        full = in_nested(ONE, 10, lambda inner: ("plus", inner, inner))
        self.right(of_rows([("print", full)] * 39), 39)

    def test_the_limit_of_depth_refuses_nothing(self):
        deep = in_nested(ONE, 40, lambda inner: ("plus", inner, ("name", "x")))
        self.right(of_statement(("print", deep)), 1)
        deep = in_nested(ONE, 40, lambda inner: ("minus", ("name", "x"), inner))
        self.right(of_statement(("print", deep)), 1)
        deep = in_nested(("read", "x"), 38, lambda inner: ("while", ONE, [inner]))
        self.right(of_rows([deep]), 39)

    def test_how_many_counts_each_function(self):
        rows = [("while", ONE, [("if", ONE, [("leave",)], [("again",), ("again",)])]), ("read", "x")]
        self.right(("source", [("f", [], rows), ("g", [], []), ("h", ["p"], rows)]), 12)


class WrongSources(Judging):
    """[6]"""

    def test_the_source(self):
        functions = full_source()[1]
        for value in [
            (), ("source",), ("source", functions, []), ["source", functions], ("source", tuple(functions)),
            ("program", functions), ("Source", functions), (None, functions), (functions, "source"), functions,
            ("source", []), ("source", None), ("source", {}), ("source", "main"), "source", ("source", [None]),
            ("source", [(name, [], []) for name in many_plain_words(9)]),
        ]:
            with self.subTest(repr(value)[:80]):
                self.wrong(value)

    def test_a_function(self):
        for function in [
            None, (), ("f", []), ("f", [], [], []), ["f", [], []], ("f", (), []), ("f", [], ()), ("f", None, []),
            ("f", [], None), ("f", {}, []), ("f", [], {}), ("f", "a", []), ("F", [], []), ("", [], []), (None, [], []),
            (["f"], [], []), ("f1", [], []), ("f" * 31, [], []), ("while", [], []), (1, [], []),
            ("f", ["a", "a"], []), ("f", ["a1"], []), ("f", ["A"], []), ("f", ["rest"], []), ("f", [1], []),
            ("f", [["a"]], []), ("f", [[], []], []), ("f", [None], []), ("f", many_plain_words(7), []),
            ("f", [], [None]), ("f", [], [[]]), ("f", [], ["leave"]),
        ]:
            with self.subTest(repr(function)[:80]):
                self.wrong(("source", [function]))
                self.wrong(("source", [("main", [], []), function]))

    def test_doubled_functions(self):
        self.wrong(("source", [("f", [], []), ("f", [], [])]))
        self.wrong(("source", [("f", [], []), ("g", [], []), ("f", ["p"], [])]))

    def test_words_with_digits_and_reserved_words(self):
        for word in RESERVED + ["a1", "t0", "s12", "A", "", "a" * 31, "a_b", "1", None, 1, True, ["a"], ("a",), {}]:
            for statement in [
                ("set", word, ONE), ("read", word), ("print", ("name", word)), ("call", word, "main", []),
                ("call", "x", word, []), ("try", [], word, []), ("return", ("plus", ONE, ("name", word))),
            ]:
                with self.subTest(repr(statement)):
                    self.wrong(of_statement(statement))
            with self.subTest(repr(word)):
                self.wrong(("source", [(word, [], [])]))
                self.wrong(("source", [("main", [word], [])]))

    def test_40_statements(self):
        read = ("read", "x")
        self.wrong(of_rows([read] * 40))
        self.wrong(of_rows([("if", ONE, [read] * 19, [read] * 20)]))
        self.wrong(of_rows([("try", [read] * 20, "x", [read] * 19)]))
        self.wrong(of_rows([("while", ONE, [read] * 38), read]))
        deep = in_nested(read, 9, lambda inner: ("if", ONE, [inner], [read]))
        self.wrong(of_rows([deep] + [read] * 21))
        self.wrong(of_rows([in_nested(read, 39, lambda inner: ("while", ONE, [inner]))]))
        self.wrong(("source", [("f", [], []), ("g", [], [read] * 40)]))

    def test_a_statement(self):
        for statement in [
            None, True, 7, "read", (), [], {}, ("x",), (None,), ([],), ({}, "x"), (1, "x"), (("read",), "x"), ["read", "x"],
            ("Read", "x"), ("go", "a"), ("copy", "x", "y"), ("number", 1), ("count", 1), ("", "x"),
            ("set", "x"), ("set", "x", ONE, ONE), ["set", "x", ONE], ("set", "x", 1), ("set", ONE, "x"),
            ("read",), ("read", "x", "y"), ("read", ("name", "x")),
            ("print",), ("print", ONE, ONE), ("print", "x"), ("print", 1), ("print", [ONE]),
            ("call", "x", "main"), ("call", "x", "main", [], []), ("call", "x", "main", ()), ("call", "x", "main", None),
            ("call", "x", "main", {}), ("call", "x", "f", (ONE, ONE)), ("call", "x", "f", [ONE, 1]),
            ("call", "x", "f", [ONE, None]), ("call", "x", "f", ["x", "y"]),
            ("if", ONE, []), ("if", ONE, [], [], []), ("if", ONE, (), []), ("if", ONE, [], ()), ("if", 1, [], []),
            ("if", ONE, None, []), ("if", ONE, [], None), ("if", [], ONE, []), ("if", ONE, [None], []),
            ("if", ONE, [], [None]), ("if", ONE, {}, []), ("if", ONE, ("read", "x"), []),
            ("while", ONE), ("while", ONE, [], []), ("while", ONE, ()), ("while", 1, []), ("while", ONE, [None]),
            ("while", [], ONE), ("while", ONE, {}),
            ("try", [], "x"), ("try", [], "x", [], []), ("try", (), "x", []), ("try", [], "x", ()), ("try", [], ONE, []),
            ("try", "x", [], []), ("try", [None], "x", []), ("try", [], "x", [None]), ("try", None, "x", []),
            ("return",), ("return", ONE, ONE), ("return", "x"), ("return", None),
            ("raise",), ("raise", ONE, ONE), ("raise", "x"), ("raise", 1),
        ]:
            with self.subTest(repr(statement)):
                self.wrong(of_statement(statement))
                self.wrong(of_statement(("while", ONE, [("read", "x"), ("if", ONE, [], [statement])])))

    def test_leave_and_again_of_a_wrong_form(self):
        for statement in [("leave", 1), ("again", "x"), ("leave", []), ["leave"], ["again"], "leave", "again"]:
            with self.subTest(repr(statement)):
                self.wrong(of_statement(("while", ONE, [statement])))

    def test_leave_and_again_outside_of_a_while(self):
        for statement in [("leave",), ("again",)]:
            self.wrong(of_rows([statement]))
            self.wrong(of_rows([("while", ONE, [statement]), statement]))
            self.wrong(of_rows([statement, ("while", ONE, [statement])]))
            for wrap in [
                lambda inner: ("if", ONE, [inner], []), lambda inner: ("if", ONE, [], [inner]),
                lambda inner: ("try", [inner], "x", []), lambda inner: ("try", [], "x", [inner]),
            ]:
                for depth in [1, 2, 9]:
                    inner = in_nested(statement, depth, wrap)
                    self.wrong(of_rows([inner]))
                    self.wrong(of_rows([("while", ONE, []), inner]))
                    self.wrong(of_rows([("while", ONE, [("again",)]), inner, ("while", ONE, [])]))
            self.wrong(("source", [("f", [], [("while", ONE, [])]), ("g", [], [statement])]))

    def test_calls_of_what_is_no_function(self):
        for name in ["g", "x", "p", "mains"]:
            self.wrong(of_statement(("call", "x", name, [])))
            self.wrong(of_statement(("call", "x", name, [ONE, ONE])))

    def test_too_few_and_too_many_expressions(self):
        for many in [0, 1, 3, 6, 7]:
            self.wrong(of_statement(("call", "x", "f", [ONE] * many)))
        self.wrong(of_statement(("call", "x", "main", [ONE])))
        self.wrong(of_statement(("while", ONE, [("try", [("call", "x", "f", [ONE])], "x", [])])))

    def test_seven_parameters_and_seven_expressions(self):
        called = ("f", many_plain_words(7), [])
        self.wrong(("source", [("main", [], [("call", "x", "f", [ONE] * 7)]), called]))

    def test_an_expression(self):
        for e in [
            None, True, 1, "x", (), [], {}, ("number",), ("number", True), ("number", False), ("number", -1),
            ("number", 1 - 10 ** 30), ("number", "1"), ("number", None), ("number", 1, 2), ("number", [1]), ["number", 1],
            ("name",), ("name", "x", "y"), ("name", 1), ("name", ("name", "x")), ["name", "x"], ("Name", "x"),
            ("plus", ONE), ("plus", ONE, ONE, ONE), ["plus", ONE, ONE], ("plus", 1, ONE), ("plus", ONE, 1),
            ("plus", ONE, None), ("plus", [ONE], ONE), ("plus", ONE, "x"), ("Plus", ONE, ONE), ("+", ONE, ONE),
            ("pow", ONE, ONE), ("more", ONE, ONE), (None, ONE, ONE), (["plus"], ONE, ONE), ({}, ONE, ONE), (ONE, "plus", ONE),
            ("number", 1, "plus"), ("plus", "name", "x"), (1, 1), ([], 1), ("set", "x", ONE), ("read", "x"),
        ]:
            for around in [e, ("less", ONE, e), ("same", ("plus", e, ONE), ("name", "x"))]:
                for statement in [
                    ("set", "x", around), ("print", around), ("return", around), ("raise", around),
                    ("if", around, [], []), ("while", around, []), ("call", "x", "f", [ONE, around]),
                ]:
                    with self.subTest(repr(statement)):
                        self.wrong(of_statement(statement))

    def test_a_wrong_function_behind_right_ones(self):
        for k in range(8):
            functions = [(name, [], [("print", ONE)]) for name in many_plain_words(8)]
            functions[k] = (functions[k][0], [], [("print", 1)])
            self.wrong(("source", functions))


class AnyValues(Judging):
    """[2]"""

    def test_odd_values_are_no_sources(self):
        for value in odd_values():
            with self.subTest(repr(value)[:80]):
                self.wrong(value)

    def test_odd_values_at_each_place(self):
        source = full_source()
        for path in each_place(source):
            for thing in odd_values() + [swapped(at(source, path)) if isinstance(at(source, path), (tuple, list)) else 0]:
                spoilt = with_put(source, path, thing)
                if is_source(spoilt):
                    self.assertGreaterEqual(how_many_statements(spoilt), 0)
                else:
                    self.wrong(spoilt)

    def test_a_list_for_a_tuple_and_a_tuple_for_a_list_anywhere(self):
        source = full_source()
        for path in each_place(source):
            if isinstance(at(source, path), (tuple, list)):
                with self.subTest(path):
                    self.wrong(with_put(source, path, swapped(at(source, path))))

    def test_deep_values_at_places_of_statements_and_expressions(self):
        for thing in [nested(26, True), nested(26, False)]:
            self.wrong(of_rows([thing]))
            self.wrong(of_rows(thing))
            self.wrong(of_rows([("print", thing)]))
            self.wrong(of_rows([("while", ONE, thing)]))

    def test_nothing_that_is_handed_in_is_changed(self):
        source, spoilt = full_source(), of_rows([("while", ONE, [("leave",)]), ("leave",)])
        before = copy.deepcopy((source, spoilt))
        answers = [is_source(source), how_many_statements(source), is_source(spoilt)]
        self.assertEqual((source, spoilt), before)
        self.assertEqual([is_source(source), how_many_statements(source), is_source(spoilt)], answers)

    def test_kinds_of_results(self):
        self.assertIs(type(how_many_statements(full_source())), int)

    def test_by_name(self):
        self.assertIs(is_source(value=full_source()), True)
        self.assertEqual(how_many_statements(source=full_source()), 17)
