import copy
import unittest

from fewprobes.blocks import first_wrong, is_program
from samples import (
    at, each_place, full_program, many_words, odd_values, of_blocks, swapped, with_put,
)

RETURN = ("return", "x")
SIGNS = ["plus", "minus", "times", "over", "rest", "less", "same"]


def of_step(step):
    return of_blocks([("a", [("read", "x"), step], RETURN)])


def of_end(end):
    """A program in which an end may name the labels a and b and the functions main and f."""
    return ("program", [
        ("main", [], [("a", [("read", "x")], end), ("b", [], RETURN)]),
        ("f", ["p", "q"], [("c", [], RETURN)]),
    ])


def of_functions(many):
    return ("program", [(name, [], [("a", [], RETURN)]) for name in many_words(many, "f")])


class Judging(unittest.TestCase):
    def right(self, value):
        self.assertIsNone(first_wrong(value))
        self.assertIs(is_program(value), True)

    def wrong(self, value, place, reason):
        self.assertEqual(first_wrong(value), (place, reason))
        self.assertIs(is_program(value), False)


class RightPrograms(Judging):
    """[14], [15]"""

    def test_each_kind_of_step_and_end(self):
        self.right(full_program())

    def test_numbers_of_functions(self):
        self.right(of_functions(1))
        self.right(of_functions(8))

    def test_numbers_of_parameters(self):
        for many in range(7):
            self.right(of_blocks([("a", [], RETURN)], parameters=many_words(many)))

    def test_numbers_of_blocks(self):
        for many in [1, 2, 159, 160]:
            self.right(of_blocks([(label, [], RETURN) for label in many_words(many)]))
        blocks = [(label, [], RETURN) for label in many_words(160)]
        self.right(("program", [(name, [], blocks) for name in many_words(8, "f")]))

    def test_many_steps_in_a_block(self):
        self.right(of_blocks([("a", [("read", "x")] * 500, RETURN)]))

    def test_counters(self):
        for k in [0, 1, 500, 998, 999]:
            self.right(of_step(("count", k)))

    def test_numbers_that_are_set(self):
        for n in [0, 1, -1, 10 ** 30 - 1, 1 - 10 ** 30, 10 ** 70]:
            self.right(of_step(("set", "x", n)))

    def test_each_sign(self):
        for sign in SIGNS:
            self.right(of_step(("deed", "x", sign, "y", "z")))

    def test_numbers_of_names_handed_over(self):
        for many in range(7):
            for kind in [("call", "x", "f", ("y",) * many, "a"), ("try", "x", "f", ("y",) * many, "a", "z", "a")]:
                blocks = [("a", [], kind)]
                self.right(("program", [("main", [], blocks), ("f", many_words(many), [("a", [], RETURN)])]))

    def test_functions_parameters_labels_and_names_may_share_words(self):
        self.right(of_blocks([("main", [("read", "main")], ("test", "main", "main", "main"))], parameters=["main"]))
        self.right(("program", [(name, ["a"], [("a", [], ("return", "a"))]) for name in ["a", "b"]]))

    def test_a_function_may_call_itself_and_the_main_one(self):
        self.right(of_end(("call", "x", "main", (), "b")))
        self.right(of_end(("try", "x", "f", ("x", "x"), "a", "x", "a")))

    def test_words_of_steps_and_ends_are_words_like_others(self):
        for name in ["set", "copy", "deed", "count", "go", "test", "plus", "yes", "program"]:
            self.right(of_blocks([(name, [("read", name)], ("go", name))], name, [name]))


class WrongForms(Judging):
    """[14], [15]: the reasons "form" and "twice" """

    def test_the_program(self):
        functions = full_program()[1]
        for value in [
            (), ("program",), ("program", functions, []), ["program", functions], ("program", tuple(functions)),
            ("Program", functions), ("source", functions), (None, functions), (functions, "program"),
            ("program", []), ("program", None), ("program", {}), ("program", "main"), functions, "program",
            ("program", {0: functions[0]}), of_functions(9), of_functions(9)[1],
        ]:
            with self.subTest(repr(value)[:80]):
                self.wrong(value, (), "form")

    def test_a_program_of_nine_wrong_functions_is_wrong_as_a_whole(self):
        self.wrong(("program", [None] * 9), (), "form")
        self.wrong(("program", [None] * 8), (0,), "form")

    def test_a_function(self):
        blocks = [("a", [], RETURN)]
        for function in [
            None, (), ("f", [], blocks, []), ("f", []), ["f", [], blocks], ("f", (), blocks), ("f", [], tuple(blocks)),
            ("F", [], blocks), ("0f", [], blocks), ("while", [], blocks), ("f" * 31, [], blocks), ("", [], blocks),
            (None, [], blocks), (["f"], [], blocks), (1, [], blocks), ("f", None, blocks), ("f", {}, blocks),
            ("f", "ab", blocks), ("f", ["a", "b", "a"], blocks), ("f", ["a", "a"], blocks), ("f", ["a", 1], blocks),
            ("f", ["a", ["b"]], blocks), ("f", ["A"], blocks), ("f", ["over"], blocks), ("f", ["a", None], blocks),
            ("f", many_words(7), blocks), ("f", [[], []], blocks), ("f", [True], blocks),
            ("f", [], []), ("f", [], None), ("f", [], {"a": 1}), ("f", [], "a"),
            ("f", [], [(label, [], RETURN) for label in many_words(161)]),
        ]:
            with self.subTest(repr(function)[:80]):
                self.wrong(("program", [function]), (0,), "form")
                main = ("main", [], [("a", [], RETURN)])
                self.wrong(("program", [main, function]), (1,), "form")

    def test_a_function_with_161_wrong_blocks_is_wrong_as_a_whole(self):
        self.wrong(of_blocks([None] * 161), (0,), "form")
        self.wrong(of_blocks([None] * 160), (0, 0), "form")

    def test_a_doubled_function(self):
        functions = of_functions(4)[1]
        self.wrong(("program", functions + [functions[0]]), (4,), "twice")
        self.wrong(("program", functions[:2] + [functions[1]] + functions[2:]), (2,), "twice")
        other = (functions[2][0], ["p"], [("z", [], ("raise", "z"))])
        self.wrong(("program", functions + [other]), (4,), "twice")

    def test_a_block(self):
        for block in [
            None, (), [], ("a", []), ("a", [], RETURN, 1), ["a", [], RETURN], ("a", (), RETURN), ("a", [], list(RETURN)),
            ("A", [], RETURN), ("", [], RETURN), ("1", [], RETURN), ("fun", [], RETURN), ("a" * 31, [], RETURN),
            (None, [], RETURN), (["a"], [], RETURN), (True, [], RETURN), ("a", None, RETURN), ("a", {}, RETURN),
            ("a", "x", RETURN), ("a", [], None), ("a", [], "return"), ("a", [], {}), ("a", RETURN, []),
        ]:
            with self.subTest(repr(block)):
                self.wrong(of_blocks([block]), (0, 0), "form")
                self.wrong(of_blocks([("b", [], RETURN), ("c", [], RETURN), block]), (0, 2), "form")

    def test_a_doubled_label(self):
        blocks = [(label, [], RETURN) for label in many_words(160)]
        self.wrong(of_blocks(blocks[:159] + [blocks[0]]), (0, 159), "twice")
        self.wrong(of_blocks([blocks[0], blocks[1], ("w1", [None], ())]), (0, 2), "twice")
        self.wrong(of_blocks([blocks[0], blocks[0], blocks[0]]), (0, 1), "twice")

    def test_a_step(self):
        for step in [
            None, True, 7, "read", (), [], {}, ("x",), (None,), ([], "x"), ({}, "x"), (1, "x"), ["read", "x"],
            ("Read", "x"), ("go", "a"), ("return", "x"), ("number", 1), ("", "x"), (("read",), "x"),
            ("set", "x"), ("set", "x", 1, 2), ("set", "X", 1), ("set", "x", "y"), ("set", "x", True), ("set", "x", None),
            ("set", "x", False), ("set", "x", [1]), ("set", 1, "x"), ("set", 1, 1), ["set", "x", 1],
            ("copy", "x"), ("copy", "x", "y", "z"), ("copy", "x", "Y"), ("copy", "x", 1), ("copy", None, "y"),
            ("copy", "print", "y"), ("copy", "x", ["y"]),
            ("deed", "x", "plus", "y"), ("deed", "x", "plus", "y", "z", "w"), ("deed", "x", "Plus", "y", "z"),
            ("deed", "x", "+", "y", "z"), ("deed", "x", "y", "plus", "z"), ("deed", "x", None, "y", "z"),
            ("deed", "x", ["plus"], "y", "z"), ("deed", "x", "plus", 1, "z"), ("deed", "x", "plus", "y", 1),
            ("deed", 0, "plus", "y", "z"), ("deed", "x", "pow", "y", "z"), ("deed", "x", "more", "y", "z"),
            ("read",), ("read", "x", "y"), ("read", 1), ("read", "read"), ("read", ("x",)), ("read", ""),
            ("print",), ("print", "x", "y"), ("print", 3), ("print", None), ("print", "print"),
            ("count",), ("count", 1, 2), ("count", "x"), ("count", -1), ("count", 1000), ("count", True),
            ("count", False), ("count", None), ("count", [1]), ("count", 10 ** 29),
        ]:
            with self.subTest(repr(step)):
                self.wrong(of_step(step), (0, 0, 1), "form")
                self.wrong(of_blocks([("a", [step, None], ())]), (0, 0, 0), "form")

    def test_an_end(self):
        names = ("x", "y")
        for end in [
            (), (None,), ([], "a"), ({}, "a"), (1, "a"), ("", "a"), ("x",), ("read", "x"), ("set", "x", 1), (("go",), "a"),
            ("Go", "a"), ("go",), ("go", "a", "b"), ("go", "A"), ("go", 1), ("go", None), ("go", ["a"]), ("go", "try"),
            ("test", "x", "a"), ("test", "x", "a", "b", "c"), ("test", 1, "a", "b"), ("test", "x", 1, "b"),
            ("test", "x", "a", None), ("test", "x", ("a",), "b"), ("test", True, "a", "b"), ("test", "x", "a", "else"),
            ("call", "x", "f", names), ("call", "x", "f", names, "a", "b"), ("call", "x", "f", list(names), "a"),
            ("call", 1, "f", names, "a"), ("call", "x", 1, names, "a"), ("call", "x", "f", names, 1),
            ("call", "x", "f", ("x", 1), "a"), ("call", "x", "f", ("x", "Y"), "a"), ("call", "x", "f", "xy", "a"),
            ("call", "x", "f", None, "a"), ("call", "x", "f", ("x", ["y"]), "a"), ("call", "x", "f", ("x",) * 7, "a"),
            ("call", "x", "F", names, "a"), ("call", "x", "f", names, "call"), ("call", "x", "f", ("x", "if"), "a"),
            ("call", "x", "f", names, "a", "y", "b"), ("call", "x", "f", {}, "a"), ("call", "x", ["f"], names, "a"),
            ("try", "x", "f", names, "a"), ("try", "x", "f", names, "a", "y"), ("try", "x", "f", names, "a", "y", "b", "c"),
            ("try", "x", "f", list(names), "a", "y", "b"), ("try", 1, "f", names, "a", "y", "b"),
            ("try", "x", "f", ("x",) * 7, "a", "y", "b"), ("try", "x", 1, names, "a", "y", "b"),
            ("try", "x", "f", names, 1, "y", "b"), ("try", "x", "f", names, "a", 1, "b"),
            ("try", "x", "f", names, "a", "y", 1), ("try", "x", "f", names, "a", "Y", "b"),
            ("try", "x", "f", names, "a", "y", ["b"]), ("try", "x", "f", (1, "y"), "a", "y", "b"),
            ("return",), ("return", "x", "y"), ("return", 1), ("return", "X"), ("return", None), ("return", "return"),
            ("raise",), ("raise", "x", "y"), ("raise", 1), ("raise", "0"), ("raise", ["x"]), ("raise", "raise"),
        ]:
            with self.subTest(repr(end)):
                self.wrong(of_end(end), (0, 0, 1), "form")


class EndsThatDoNotFit(Judging):
    """[15]: the reasons "label", "function", "arguments" """

    def test_labels(self):
        for end in [
            ("go", "c"), ("test", "x", "c", "a"), ("test", "x", "a", "c"), ("test", "x", "main", "f"),
            ("call", "x", "f", ("x", "y"), "c"), ("try", "x", "f", ("x", "y"), "c", "y", "a"),
            ("try", "x", "f", ("x", "y"), "a", "y", "c"), ("go", "x"),
        ]:
            with self.subTest(repr(end)):
                self.wrong(of_end(end), (0, 0, 1), "label")

    def test_the_second_name_of_a_try_is_no_label(self):
        self.right(of_end(("try", "x", "f", ("x", "y"), "a", "nowhere", "b")))

    def test_functions(self):
        for name in ["g", "a", "p", "main0"]:
            with self.subTest(name):
                self.wrong(of_end(("call", "x", name, (), "a")), (0, 0, 1), "function")
                self.wrong(of_end(("try", "x", name, (), "a", "y", "b")), (0, 0, 1), "function")

    def test_numbers_of_names(self):
        for many in [0, 1, 3, 4, 5, 6]:
            with self.subTest(many):
                self.wrong(of_end(("call", "x", "f", ("x",) * many, "a")), (0, 0, 1), "arguments")
                self.wrong(of_end(("try", "x", "f", ("x",) * many, "a", "y", "b")), (0, 0, 1), "arguments")
        self.wrong(of_end(("call", "x", "main", ("x",), "a")), (0, 0, 1), "arguments")

    def test_the_label_comes_ahead_of_the_function_and_this_of_the_names(self):
        self.wrong(of_end(("call", "x", "g", ("x",), "c")), (0, 0, 1), "label")
        self.wrong(of_end(("call", "x", "f", ("x",), "c")), (0, 0, 1), "label")
        self.wrong(of_end(("try", "x", "g", ("x",), "a", "y", "c")), (0, 0, 1), "label")
        self.wrong(of_end(("call", "x", "g", ("x",), "a")), (0, 0, 1), "function")

    def test_the_place_is_that_of_the_end(self):
        for many in [0, 1, 5]:
            steps = [("read", "x")] * many
            functions = of_functions(2)[1]
            functions.append(("g", [], [("a", [], RETURN), ("b", steps, ("go", "c"))]))
            self.wrong(("program", functions), (2, 1, many), "label")

    def test_ends_in_order(self):
        blocks = [("a", [], ("go", "b")), ("b", [], ("call", "x", "g", (), "a")), ("c", [], ("go", "d"))]
        self.wrong(of_blocks(blocks), (0, 1, 0), "function")
        functions = of_functions(1)[1] + [("g", [], [("a", [], ("call", "x", "g", ("x",), "a"))])]
        self.wrong(("program", functions + [("main", [], blocks)]), (1, 0, 0), "arguments")


class TwoFaults(Judging):
    """[15]: the first one in the order told"""

    def test_form_and_twice_come_ahead_of_what_does_not_fit(self):
        unfit = ("main", [], [("a", [], ("go", "nowhere")), ("b", [], ("call", "x", "g", (), "a"))])
        f = ("f", [], [("a", [], RETURN)])
        self.wrong(("program", [unfit, None]), (1,), "form")
        self.wrong(("program", [unfit, f, f]), (2,), "twice")
        self.wrong(("program", [unfit, ("f", [], [None])]), (1, 0), "form")
        self.wrong(("program", [unfit, ("f", [], f[2] * 2)]), (1, 1), "twice")
        self.wrong(("program", [unfit, ("f", [], [("a", [None], RETURN)])]), (1, 0, 0), "form")
        self.wrong(("program", [unfit, ("f", [], [("a", [], ("return", 1))])]), (1, 0, 0), "form")
        self.wrong(("program", [unfit, f]), (0, 0, 0), "label")

    def test_function_by_function(self):
        bad_step = ("main", [], [("a", [("read", 1)], RETURN)])
        self.wrong(("program", [bad_step, None]), (0, 0, 0), "form")
        self.wrong(("program", [bad_step, bad_step]), (0, 0, 0), "form")
        good = ("main", [], [("a", [], RETURN)])
        self.wrong(("program", [good, bad_step, None]), (1,), "twice")
        self.wrong(("program", [good, None, good]), (1,), "form")
        self.wrong(("program", [good, ("main", [], [])]), (1,), "form")
        self.wrong(("program", [good, ("main", ["a", "a"], good[2])]), (1,), "form")

    def test_block_by_block(self):
        bad_step = ("a", [("read", 1)], RETURN)
        self.wrong(of_blocks([bad_step, None]), (0, 0, 0), "form")
        self.wrong(of_blocks([("a", [], RETURN), bad_step]), (0, 1), "twice")
        self.wrong(of_blocks([("a", [], RETURN), ("a", [], list(RETURN))]), (0, 1), "form")
        self.wrong(of_blocks([("a", [], RETURN), ("b", [], ()), ("a", [], RETURN)]), (0, 1, 0), "form")

    def test_step_by_step_and_the_end_behind(self):
        self.wrong(of_blocks([("a", [("read", "x"), ("read", 1), None], ())]), (0, 0, 1), "form")
        self.wrong(of_blocks([("a", [("read", "x"), ("read", "x")], ())]), (0, 0, 2), "form")


class AnyValues(Judging):
    """[2]: values of any kind are judged and never raise"""

    def test_odd_values_are_no_programs(self):
        for value in odd_values():
            with self.subTest(repr(value)[:80]):
                self.wrong(value, (), "form")

    def test_odd_values_at_each_place(self):
        program = full_program()
        for path in each_place(program):
            for thing in odd_values() + [swapped(at(program, path)) if isinstance(at(program, path), (tuple, list)) else 0]:
                spoilt = with_put(program, path, thing)
                answer = first_wrong(spoilt)
                self.assertIs(is_program(spoilt), answer is None)
                if answer is not None:
                    self.assertIs(type(answer), tuple)
                    self.assertIs(type(answer[0]), tuple)
                    self.assertIn(answer[1], ["form", "twice", "label", "function", "arguments"])

    def test_a_list_for_a_tuple_and_a_tuple_for_a_list_anywhere(self):
        program = full_program()
        for path in each_place(program):
            if isinstance(at(program, path), (tuple, list)):
                with self.subTest(path):
                    self.assertIs(is_program(with_put(program, path, swapped(at(program, path)))), False)

    def test_nothing_that_is_handed_in_is_changed(self):
        program, spoilt = full_program(), of_end(("go", "c"))
        before = copy.deepcopy((program, spoilt))
        answers = [first_wrong(program), first_wrong(spoilt), is_program(program), is_program(spoilt)]
        self.assertEqual((program, spoilt), before)
        self.assertEqual([first_wrong(program), first_wrong(spoilt), is_program(program), is_program(spoilt)], answers)

    def test_by_name(self):
        self.assertIs(is_program(value=full_program()), True)
        self.assertEqual(first_wrong(value=None), ((), "form"))
