import copy
import time
import unittest

from fewprobes.blocks import edges
from fewprobes.errors import InvalidList, InvalidNumber, InvalidProgram
from fewprobes.runs import Runner, counters, counts, run, trace
from fewprobes.through import is_way, stack_behind
from makers import chance, some_program, some_way, stepped
from samples import full_program, odd_values, of_blocks

X_END = ("return", "x")


def stepping(steps, parameters=()):
    """A program of one block with these steps that returns x."""
    return of_blocks([("a", steps, X_END)], parameters=parameters)


def deed(sign, y, z):
    return run(stepping([("deed", "x", sign, "a", "b")], ["a", "b"]), [y, z], [], 1)[0][1]


def faulting():
    """f tries g, g calls h, h raises 7 times its number; main tries f."""
    return ("program", [
        ("main", ["n"], [
            ("a", [], ("try", "x", "f", ("n",), "b", "y", "c")), ("b", [("print", "x")], X_END),
            ("c", [("print", "y")], ("raise", "y")),
        ]),
        ("f", ["n"], [
            ("a", [], ("try", "x", "g", ("n",), "b", "z", "c")), ("b", [], X_END),
            ("c", [("print", "z"), ("print", "x")], ("return", "z")),
        ]),
        ("g", ["n"], [("a", [("set", "x", 1)], ("call", "x", "h", ("n",), "b")), ("b", [], X_END)]),
        ("h", ["n"], [
            ("a", [], ("test", "n", "b", "c")), ("b", [("set", "s", 7), ("deed", "n", "times", "n", "s")],
                ("raise", "n")),
            ("c", [("set", "x", 5)], X_END),
        ]),
    ])


def falling():
    """f, g and h call one another in turn; h raises; main calls f."""
    def calling(name):
        return [("a", [], ("call", "x", name, (), "b")), ("b", [], X_END)]
    return ("program", [
        ("main", [], calling("f")), ("f", [], calling("g")), ("g", [], calling("h")),
        ("h", [], [("a", [], ("raise", "x"))]),
    ])


def counting():
    """A program that counts, prints and reads without an end."""
    return of_blocks([
        ("a", [("count", 5), ("read", "x")], ("test", "x", "b", "a")),
        ("b", [("count", 0), ("count", 999), ("print", "x")], ("go", "a")),
    ])


class Steps(unittest.TestCase):
    """[14], [19]"""

    def test_set_and_copy(self):
        self.assertEqual(run(stepping([("set", "y", -4), ("copy", "x", "y"), ("set", "y", 1)]), [], [], 1)[0],
            ("value", -4))
        self.assertEqual(run(stepping([("set", "x", 4), ("copy", "x", "y")]), [], [], 1)[0], ("value", 0))

    def test_signs(self):
        for y in range(-4, 5):
            for z in range(-4, 5):
                quotient = y // z if z else 0
                self.assertEqual([deed(sign, y, z) for sign in ["plus", "minus", "times", "over", "rest", "less",
                    "same"]], [
                    y + z, y - z, y * z, quotient, y - z * quotient, int(y < z), int(y == z),
                ])
        self.assertEqual([deed("rest", 5, 0), deed("over", -7, 2), deed("rest", -7, 2), deed("rest", 7, -2)],
            [5, -4, 1, -1])
        self.assertEqual(deed("times", 10 ** 30 - 1, 10 ** 30 - 1), (10 ** 30 - 1) ** 2)
        self.assertIs(type(deed("less", 1, 2)), int)

    def test_a_deed_into_one_of_its_names(self):
        self.assertEqual(run(stepping([("deed", "x", "plus", "x", "x")], ["x"]), [4], [], 1)[0], ("value", 8))

    def test_read_and_print(self):
        program = stepping([("read", "x"), ("print", "x"), ("read", "y"), ("print", "y"), ("read", "x"),
            ("print", "x")])
        self.assertEqual(run(program, [], [3, -1], 1), (("value", 0), [], [3, -1, 0]))
        self.assertEqual(run(program, [], [3, -1, 9, 8], 1), (("value", 9), [], [3, -1, 9]))

    def test_counters(self):
        self.assertEqual(counters(counting(), [], [1, 0, 2], 6), [(0, 2), (5, 4), (999, 2)])
        self.assertEqual(counters(counting(), [], [], 3), [(5, 3)])
        self.assertEqual(counters(counting(), [], [], 0), [])

    def test_counters_belong_to_the_run(self):
        program = ("program", [
            ("main", [], [("a", [("count", 1)], ("try", "x", "f", (), "b", "y", "b")), ("b", [("count", 1)], X_END)]),
            ("f", [], [("a", [("count", 1), ("count", 2)], ("raise", "x"))]),
        ])
        self.assertEqual(counters(program, [], [], 9), [(1, 3), (2, 1)])


class Ends(unittest.TestCase):
    """[14], [19], [20]"""

    def test_go_and_test(self):
        program = of_blocks([
            ("a", [], ("go", "b")), ("b", [], ("test", "n", "c", "d")), ("c", [], ("raise", "n")),
            ("d", [], ("return", "n")),
        ], parameters=["n"])
        for n, kind, way in [(0, "value", "no"), (1, "fault", "yes"), (-1, "fault", "yes")]:
            self.assertEqual(run(program, [n], [], 9), ((kind, n), [], []))
            self.assertEqual([edge[2] for edge in trace(program, [n], [], 9)],
                ["go", way, {"value": "return", "fault": "raise"}[kind]])

    def test_a_call_hands_over_and_takes_back(self):
        program = ("program", [
            ("main", ["p", "q"], [("a", [], ("call", "p", "f", ("q", "p", "z"), "b")),
                ("b", [("print", "p"), ("print", "q")], ("return", "a"))]),
            ("f", ["a", "b", "c"], [("a", [("print", "a"), ("print", "b"), ("print", "c"), ("set", "q", 9),
                ("set", "a", 6)], ("return", "a"))]),
        ])
        self.assertEqual(run(program, [1, 2], [], 9), (("value", 0), [], [2, 1, 0, 6, 2]))
        self.assertEqual(trace(program, [1, 2], [], 9), [
            ("main", "a", "call"), ("f", "a", "return"), ("main", "a", "value"), ("main", "b", "return"),
        ])

    def test_a_fault_goes_through_calls_up_to_a_try(self):
        program = faulting()
        self.assertEqual(run(program, [3], [], 99), (("value", 21), [], [21, 0, 21]))
        self.assertEqual(trace(program, [3], [], 99), [
            ("main", "a", "call"), ("f", "a", "call"), ("g", "a", "call"), ("h", "a", "yes"), ("h", "b", "raise"),
            ("g", "a", "fault"),
            ("f", "a", "fault"), ("f", "c", "return"), ("main", "a", "value"), ("main", "b", "return"),
        ])
        self.assertEqual(run(program, [0], [], 99), (("value", 5), [], [5]))
        self.assertEqual(run(program, [3], [], 5), (("on",), [("main", "a"), ("f", "c")], []))
        self.assertEqual(run(program, [3], [], 4), (("on",), [("main", "a"), ("f", "a"), ("g", "a"), ("h", "b")], []))

    def test_a_fault_that_nothing_takes(self):
        self.assertEqual(run(falling(), [], [], 9), (("fault", 0), [], []))
        self.assertEqual([edge[:1] + edge[2:] for edge in trace(falling(), [], [], 4)], [
            ("main", "call"), ("f", "call"), ("g", "call"), ("h", "raise"), ("g", "fault"), ("f", "fault"),
            ("main", "fault"),
        ])

    def test_the_main_function_called_by_itself(self):
        program = ("program", [("f", ["n"], [
            ("a", [("set", "one", 1)], ("test", "n", "b", "c")),
            ("b", [("deed", "m", "minus", "n", "one")], ("call", "x", "f", ("m",), "d")),
            ("c", [], ("raise", "n")), ("d", [], X_END),
        ]), ("g", [], [("a", [], X_END)])])
        self.assertEqual(run(program, [3], [], 5), (("on",), [("f", "b")] * 2 + [("f", "b")], []))
        self.assertEqual(run(program, [3], [], 9)[0], ("fault", 0))
        self.assertEqual(trace(program, [2], [], 9)[-3:],
            [("f", "c", "raise"), ("f", "b", "fault"), ("f", "b", "fault")])

    def test_the_value_is_put_into_its_name_alone(self):
        program = ("program", [
            ("main", [], [("a", [], ("try", "x", "f", (), "b", "y", "b")),
                ("b", [("print", "x"), ("print", "y")], X_END)]),
            ("f", [], [("a", [("read", "x"), ("read", "y")], ("test", "x", "b", "c")), ("b", [], ("return", "y")),
                ("c", [], ("raise", "y"))]),
        ])
        self.assertEqual(run(program, [], [1, 8], 9)[2], [8, 0])
        self.assertEqual(run(program, [], [0, 8], 9)[2], [0, 8])

    def test_both_names_of_a_try_may_be_one(self):
        program = ("program", [
            ("main", [], [("a", [], ("try", "x", "f", (), "b", "x", "b")), ("b", [], X_END)]),
            ("f", [], [("a", [("set", "x", 3)], ("raise", "x"))]),
        ])
        self.assertEqual(run(program, [], [], 9)[0], ("value", 3))


class Bounds(unittest.TestCase):
    """[20]"""

    def test_none_just_enough_and_one_less(self):
        program = faulting()
        self.assertEqual(run(program, [3], [], 0), (("on",), [("main", "a")], []))
        self.assertEqual(trace(program, [3], [], 0), [])
        self.assertEqual(run(program, [3], [], 7), (("value", 21), [], [21, 0, 21]))
        self.assertEqual(run(program, [3], [], 6), (("on",), [("main", "b")], [21, 0]))

    def test_as_many_blocks_as_may_be(self):
        self.assertEqual(counters(counting(), [], [], 20000), [(5, 20000)])
        program = of_blocks([("a", [], ("call", "x", "main", (), "a"))])
        begin = time.perf_counter()
        outcome, stack, printed = run(program, [], [], 20000)
        self.assertEqual([outcome, stack, printed], [("on",), [("main", "a")] * 20001, []])
        down = of_blocks([
            ("a", [("set", "e", 1), ("deed", "n", "minus", "n", "e")], ("test", "n", "b", "c")),
            ("b", [], ("call", "x", "main", ("n",), "a")),
            ("c", [], ("raise", "n")),
        ], parameters=["n"])
        self.assertEqual(run(down, [10000], [], 20000)[0], ("fault", 0))
        way = trace(down, [10000], [], 20000)
        self.assertEqual([len(way), way[-1], stack_behind(down, way)], [20000 + 9999, ("main", "b", "fault"), []])
        self.assertEqual(run(down, [10001], [], 20000)[0], ("on",))
        self.assertEqual(run(counting(), [], [1] * 10000, 20000)[2], [1] * 10000)
        self.assertLess(time.perf_counter() - begin, 10)

    def test_many_programs(self):
        for seed in range(300):
            dice = chance(seed)
            program = some_program(dice)
            arguments = [dice.randint(-2, 5) for _ in program[1][0][1]]
            inputs = [dice.randint(-2, 5) for _ in range(dice.randint(0, 6))]
            for most in [0, 1, 2, 3, 10, 60]:
                told = stepped(program, arguments, inputs, most)
                stack = list(told.state[0])
                self.assertEqual(run(program, arguments, inputs, most), (told.outcome or ("on",), stack, told.printed),
                    seed)
                self.assertEqual(trace(program, arguments, inputs, most), told.way)
                self.assertEqual(counters(program, arguments, inputs, most), sorted(told.counts.items()))
                self.assertIs(is_way(program, told.way), True)


class Counts(unittest.TestCase):
    """[20]"""

    def test_how_often_each_edge_stands_there(self):
        program = full_program()
        self.assertEqual(counts(program, []), [0] * 12)
        way = [("main", "bad", "raise"), ("main", "top", "yes"), ("main", "bad", "raise")]
        self.assertEqual(counts(program, way), [1, 0, 0, 0, 0, 0, 0, 0, 2, 0, 0, 0])
        self.assertEqual(counts(program, edges(program) * 3), [3] * 12)

    def test_of_many_ways(self):
        for seed in range(50):
            dice = chance(seed)
            program = some_program(dice)
            way = some_way(program, dice, 50)[0]
            self.assertEqual(counts(program, way), [way.count(edge) for edge in edges(program)])

    def test_refusals(self):
        program = full_program()
        for way in odd_values() + [tuple(edges(program)), [("main", "top", "go")], edges(program) + [None],
            [list(edges(program)[0])]]:
            if way != []:
                with self.assertRaises(InvalidList) as caught:
                    counts(program, way)
                self.assertIs(caught.exception.value, way)
        for value in odd_values():
            with self.assertRaises(InvalidProgram) as caught:
                counts(value, None)
            self.assertIs(caught.exception.value, value)


class Refusals(unittest.TestCase):
    """[2], [20], [21]"""

    def refused(self, kind, value, *arguments):
        for function in [run, trace, counters]:
            with self.assertRaises(kind) as caught:
                function(*arguments)
            self.assertIs(type(caught.exception), kind)
            self.assertIs(caught.exception.value, value)
        if kind != InvalidNumber:
            with self.assertRaises(kind) as caught:
                Runner(*arguments[:3])
            self.assertIs(caught.exception.value, value)

    def test_programs(self):
        for value in odd_values() + [of_blocks([]), of_blocks([("a", [], ("go", "b"))])]:
            self.refused(InvalidProgram, value, value, None, None, None)

    def test_arguments(self):
        program = stepping([], ["a", "b"])
        for value in odd_values() + [[1], [1, 2, 3], (1, 2), [1, True], [False, 1], [1, "2"], [1, None]]:
            self.refused(InvalidList, value, program, value, None, None)
        for value in [[0], [1, 2]]:
            self.refused(InvalidList, value, full_program(), value, None, -1)

    def test_inputs(self):
        for value in odd_values() + [(1, 2), [1, True], [1, "2"], [[]], 3]:
            if value != []:
                self.refused(InvalidList, value, full_program(), [], value, -1)

    def test_most(self):
        for value in odd_values() + [-1, 20001, 10 ** 29, "5", [5]]:
            if isinstance(value, bool) or value not in (0, 1, 7):
                self.refused(InvalidNumber, value, stepping([]), [], [], value)

    def test_nothing_is_changed_and_all_lists_are_new(self):
        program, arguments, inputs = faulting(), [3], [1, 2]
        before = copy.deepcopy((program, arguments, inputs))
        for function in [run, trace, counters]:
            answer = function(most=6, inputs=inputs, arguments=arguments, program=program)
            for part in answer if isinstance(answer, tuple) else [answer]:
                if isinstance(part, list):
                    part.append(("main", "a"))
            self.assertEqual(function(program, arguments, inputs, 6), function(before[0], [3], [1, 2], 6))
        way = trace(program, arguments, inputs, 6)
        self.assertEqual(sum(counts(way=way, program=program)), len(way))
        self.assertEqual((program, arguments, inputs), before)
