"""What the document's examples show of the modules that there are."""

import unittest

from fewprobes.blocks import edges, first_wrong, is_program, led_to
from fewprobes.profiles import recorded
from fewprobes.runs import counters, run, trace
from fewprobes.sources import how_many_statements, is_source

HALF = ("source", [
    ("main", ["n"], [
        ("while", ("less", ("number", 1), ("name", "n")), [
            ("call", "n", "half", [("name", "n")]), ("print", ("name", "n")),
        ]),
    ]),
    ("half", ["n"], [
        ("if", ("rest", ("name", "n"), ("number", 2)), [("raise", ("name", "n"))], []),
        ("return", ("over", ("name", "n"), ("number", 2))),
    ]),
])
ADDED = ("program", [("main", [], [
    ("s0", [("set", "s", 0)], ("go", "s1")),
    ("s1", [("set", "t0", 1)], ("test", "t0", "s2", "s7")),
    ("s2", [("read", "x"), ("copy", "t0", "x")], ("test", "t0", "s4", "s6")),
    ("s4", [("copy", "t0", "s"), ("copy", "t1", "x"), ("deed", "s", "plus", "t0", "t1")], ("go", "s1")),
    ("s6", [], ("go", "s7")),
    ("s7", [("copy", "t0", "s")], ("return", "t0")),
])])
CAUGHT = ("program", [
    ("main", [], [
        ("s0", [], ("go", "s1")),
        ("s1", [("set", "t0", 1)], ("try", "x", "f", ("t0",), "s2", "y", "end")),
        ("s2", [("copy", "y", "x")], ("go", "end")),
        ("end", [("set", "t0", 0)], ("return", "t0")),
    ]),
    ("f", ["a"], [
        ("s3", [("copy", "t0", "a"), ("set", "t1", 1), ("deed", "t0", "plus", "t0", "t1")], ("return", "t0")),
    ]),
])
SHOWN = ("program", [
    ("main", ["n"], [
        ("top", [("read", "x")], ("test", "x", "more", "done")),
        ("more", [], ("call", "y", "f", ("x",), "top")),
        ("done", [], ("return", "n")),
    ]),
    ("f", ["a"], [("in", [], ("return", "a"))]),
])
TURN = ("f", ["n"], [("a", [], ("test", "n", "b", "c")), ("b", [], ("return", "n")), ("c", [], ("raise", "n"))])
TRIED = ("program", [
    ("main", [], [("d", [("read", "x")], ("try", "y", "f", ("x",), "e", "z", "d")), ("e", [], ("return", "y"))]), TURN,
])
CALLED = ("program", [
    ("main", [], [("d", [("read", "x")], ("call", "y", "f", ("x",), "e")), ("e", [], ("return", "y"))]), TURN,
])
MADE = ("program", [
    ("main", [], [
        ("d", [("read", "x")], ("try", "y", "f", ("x",), "e", "c0", "c0")), ("e", [], ("return", "y")),
        ("c0", [("count", 1)], ("raise", "c0")),
    ]),
    ("f", ["n"], [
        ("a", [], ("test", "n", "b", "c0")), ("b", [("count", 2)], ("return", "n")), ("c", [], ("raise", "n")),
        ("c0", [("count", 0)], ("go", "c")),
    ]),
])
SERVER = ("program", [
    ("serve", [], [("top", [("read", "x")], ("test", "x", "job", "top")), ("job", [("print", "x")], ("go", "top"))]),
])
OLD = ("program", [("main", [], [
    ("a", [("read", "x")], ("test", "x", "b", "c")), ("b", [("print", "x")], ("go", "a")), ("c", [], ("return", "x")),
])])
NEW = ("program", [("main", [], [
    ("a", [("read", "x")], ("test", "x", "b", "c")), ("b", [("print", "x")], ("go", "d")),
    ("c", [], ("raise", "x")), ("d", [("read", "x")], ("test", "x", "b", "c")),
])])


class Sources(unittest.TestCase):
    def test_half(self):
        self.assertEqual([is_source(HALF), how_many_statements(HALF)], [True, 6])

    def test_a_leave_without_a_while(self):
        self.assertIs(is_source(("source", [("f", [], [("leave",)])])), False)

    def test_signs_from_the_left(self):
        left = ("minus", ("number", 1), ("number", 2))
        right = ("times", ("less", ("number", 3), ("name", "x")), ("number", 4))
        self.assertIs(is_source(("source", [("f", [], [("set", "x", ("minus", left, right))])])), True)


class Programs(unittest.TestCase):
    def test_all_are_programs(self):
        for program in [ADDED, CAUGHT, SHOWN, TRIED, CALLED, MADE, SERVER, OLD, NEW]:
            self.assertIs(is_program(program), True)
            self.assertIsNone(first_wrong(program))

    def test_edges(self):
        self.assertEqual(edges(SHOWN), [
            ("main", "top", "yes"), ("main", "top", "no"), ("main", "more", "call"), ("main", "more", "value"),
            ("main", "more", "fault"), ("main", "done", "return"), ("f", "in", "return"),
        ])
        self.assertEqual(edges(TRIED), [
            ("main", "d", "call"), ("main", "d", "value"), ("main", "d", "fault"), ("main", "e", "return"),
            ("f", "a", "yes"), ("f", "a", "no"), ("f", "b", "return"), ("f", "c", "raise"),
        ])
        self.assertEqual(edges(SERVER), [("serve", "top", "yes"), ("serve", "top", "no"), ("serve", "job", "go")])
        self.assertEqual(edges(NEW), [
            ("main", "a", "yes"), ("main", "a", "no"), ("main", "b", "go"), ("main", "c", "raise"),
            ("main", "d", "yes"), ("main", "d", "no"),
        ])

    def test_where_edges_lead(self):
        self.assertEqual([led_to(TRIED, edge) for edge in edges(TRIED)], [
            ("f", "a"), ("main", "e"), ("main", "d"), None, ("f", "b"), ("f", "c"), None, None,
        ])
        self.assertIsNone(led_to(CALLED, ("main", "d", "fault")))
        self.assertEqual(led_to(MADE, ("main", "d", "fault")), ("main", "c0"))
        self.assertEqual(led_to(MADE, ("f", "c0", "go")), ("f", "c"))
        self.assertEqual(led_to(CAUGHT, ("main", "s1", "fault")), ("main", "end"))


class Runs(unittest.TestCase):
    def test_a_program_with_counters_and_without(self):
        self.assertEqual(run(CALLED, [], [0], 9), (("fault", 0), [], []))
        self.assertEqual(run(MADE, [], [0], 9), (("fault", 0), [], []))
        self.assertEqual(counters(MADE, [], [0], 9), [(0, 1), (1, 1)])
        self.assertEqual(run(MADE, [], [0], 2)[1], [("main", "d"), ("f", "c0")])
        self.assertEqual(run(CALLED, [], [0], 2)[1], [("main", "d"), ("f", "c")])
        self.assertEqual([run(MADE, [], [0], 4)[1], run(CALLED, [], [0], 3)[1]], [[("main", "c0")], []])

    def test_runs_that_are_recorded(self):
        self.assertEqual(recorded(OLD, trace(OLD, [], [5, 7], 9)), ("profile", 1, [2, 1, 2, 1], [0] * 3, [0] * 3))
        self.assertEqual(recorded(OLD, trace(OLD, [], [5, 7, 0], 5)), ("profile", 1, [2, 1, 2, 0], [0] * 3, [0, 0, 1]))
        self.assertEqual(run(SHOWN, [0], [4, 5], 99), (("value", 0), [], []))
        self.assertEqual(run(SHOWN, [0], [6], 2), (("on",), [("main", "more"), ("f", "in")], []))
