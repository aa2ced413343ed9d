import copy
import unittest

from fewprobes.blocks import is_program
from fewprobes.compiler import compiled, places, statement_counts, statements_gone
from fewprobes.errors import InvalidList, InvalidProfile, InvalidProgram
from fewprobes.profiles import merged, recorded
from fewprobes.readings import read_source
from fewprobes.runs import run, trace
from fewprobes.sourceruns import source_run
from fewprobes.sources import how_many_statements, is_source
from makers import chance, some_expression, some_source, some_way
from samples import full_source, odd_values, of_rows

FINAL = ("end", [("set", "t0", 0)], ("return", "t0"))
ZERO = [("set", "t0", 0)]
ONE = [("set", "t0", 1)]


def made(text):
    """The blocks of the first function of a text of statements; g has no parameter, h two."""
    source = read_source("fun main() {" + text + "} fun g() { } fun h(a, b) { }")
    assert is_source(source)
    return compiled(source)[1][0][2]


def steps_of(text):
    """The steps of the statements in the first block."""
    return made(text)[0][1]


class Blocks(unittest.TestCase):
    """[10], [11]"""

    def check(self, text, *blocks):
        self.assertEqual(made(text), list(blocks))

    def test_functions_names_and_parameters(self):
        program = compiled(read_source("fun f(a, b) { } fun g() { read x; return x; }"))
        self.assertEqual(program, ("program", [
            ("f", ["a", "b"], [FINAL]), ("g", [], [("s0", [("read", "x"), ("copy", "t0", "x")], ("return", "t0"))]),
        ]))

    def test_numbers_go_on_from_function_to_function(self):
        program = compiled(read_source("fun f() { read x; while 1 { } } fun g() { } fun h() { read x; }"))
        self.assertEqual([[block[0] for block in blocks] for name, parameters, blocks in program[1]],
                         [["s0", "s1", "end"], ["end"], ["s2", "end"]])

    def test_set_read_and_print_stand_together(self):
        self.check("x = 1; read y; print x;", (
            "s0", [("set", "x", 1), ("read", "y"), ("copy", "t0", "x"), ("print", "t0")], ("go", "end"),
        ), FINAL)

    def test_each_other_statement_ends_its_block(self):
        for text, end in [
            ("if 1 { }", ("test", "t0", "s2", "s2")), ("x = call g();", ("call", "x", "g", (), "s2")),
            ("try { } catch y { }", ("go", "s2")), ("return 1;", ("return", "t0")), ("raise 1;", ("raise", "t0")),
        ]:
            with self.subTest(text):
                blocks = made("read x; " + text + " read y; return y;")
                steps = [("read", "x")] + ([] if "call" in text or "try" in text else ONE)
                self.assertEqual(blocks[:1], [("s0", steps, end)])
                self.assertEqual(blocks[1], ("s2", [("read", "y"), ("copy", "t0", "y")], ("return", "t0")))

    def test_a_while_opens_a_block(self):
        self.check("read x; while x { read x; }", ("s0", [("read", "x")], ("go", "s1")),
                   ("s1", [("copy", "t0", "x")], ("test", "t0", "s2", "end")), ("s2", [("read", "x")], ("go", "s1")),
                   FINAL)
        self.check("while 0 { } return 1;", ("s0", ZERO, ("test", "t0", "s0", "s1")), ("s1", ONE, ("return", "t0")))

    def test_a_while_first_in_a_while(self):
        self.check("while 1 { while 0 { } }", ("s0", ONE, ("test", "t0", "s1", "end")),
            ("s1", ZERO, ("test", "t0", "s1", "s0")), FINAL)

    def test_if(self):
        self.check("if 1 { read x; } else { read y; } return 0;", ("s0", ONE, ("test", "t0", "s1", "s2")),
                   ("s1", [("read", "x")], ("go", "s3")), ("s2", [("read", "y")], ("go", "s3")),
                   ("s3", ZERO, ("return", "t0")))
        self.check("if 1 { } else { read y; }", ("s0", ONE, ("test", "t0", "end", "s1")),
            ("s1", [("read", "y")], ("go", "end")), FINAL)
        self.check("if 1 { return 0; } else { return 0; }", ("s0", ONE, ("test", "t0", "s1", "s2")),
                   ("s1", ZERO, ("return", "t0")), ("s2", ZERO, ("return", "t0")))

    def test_behind_rows_within_rows(self):
        self.check("while 1 { if 0 { if 1 { read x; } } }", ("s0", ONE, ("test", "t0", "s1", "end")),
            ("s1", ZERO, ("test", "t0", "s2", "s0")),
                   ("s2", ONE, ("test", "t0", "s3", "s0")), ("s3", [("read", "x")], ("go", "s0")), FINAL)

    def test_leave_and_again(self):
        self.check("while 1 { while 0 { leave; } if 0 { again; } leave; } return 0;",
            ("s0", ONE, ("test", "t0", "s1", "s6")),
                   ("s1", ZERO, ("test", "t0", "s2", "s3")), ("s2", [], ("go", "s3")),
                   ("s3", ZERO, ("test", "t0", "s4", "s5")),
                   ("s4", [], ("go", "s0")), ("s5", [], ("go", "s6")), ("s6", ZERO, ("return", "t0")))

    def test_try(self):
        self.check("try { read x; } catch y { read z; } return 0;", ("s0", [], ("go", "s1")),
            ("s1", [("read", "x")], ("go", "s3")),
                   ("s2", [("read", "z")], ("go", "s3")), ("s3", ZERO, ("return", "t0")))
        self.check("try { } catch y { read z; } return 0;", ("s0", [], ("go", "s2")),
            ("s1", [("read", "z")], ("go", "s2")),
                   ("s2", ZERO, ("return", "t0")))

    def test_raise_in_rows_of_a_try(self):
        self.check("try { raise x + 1; } catch y { return 0; } return 1;", ("s0", [], ("go", "s1")),
                   ("s1", [("copy", "t0", "x"), ("set", "t1", 1), ("deed", "y", "plus", "t0", "t1")], ("go", "s2")),
                   ("s2", ZERO, ("return", "t0")), ("s3", ONE, ("return", "t0")))
        self.check("try { raise 1; } catch y { } return 1;", ("s0", [], ("go", "s1")),
            ("s1", [("set", "y", 1)], ("go", "s2")),
                   ("s2", ONE, ("return", "t0")))

    def test_calls_in_rows_of_a_try(self):
        self.check("try { x = call g(); } catch y { } return 0;", ("s0", [], ("go", "s1")),
                   ("s1", [], ("try", "x", "g", (), "s2", "y", "s2")), ("s2", ZERO, ("return", "t0")))

    def test_others_are_not_in_the_rows(self):
        blocks = made("try { } catch y { x = call g(); raise 1; }")
        self.assertEqual([block[2] for block in blocks[1:3]], [("call", "x", "g", (), "s2"), ("raise", "t0")])

    def test_tries_within_tries(self):
        blocks = made("try { try { raise 1; x = call g(); } catch a { raise 2; x = call g(); } raise 3; } catch b { raise 4; } return 0;")
        self.assertEqual(blocks, [
            ("s0", [], ("go", "s1")), ("s1", [], ("go", "s2")), ("s2", [("set", "a", 1)], ("go", "s4")),
            ("s3", [], ("try", "x", "g", (), "s6", "a", "s4")), ("s4", [("set", "b", 2)], ("go", "s7")),
            ("s5", [], ("try", "x", "g", (), "s6", "b", "s7")), ("s6", [("set", "b", 3)], ("go", "s7")),
            ("s7", [("set", "t0", 4)], ("raise", "t0")), ("s8", ZERO, ("return", "t0")),
        ])

    def test_leave_again_and_return_in_rows_of_a_try(self):
        blocks = made("while 1 { try { if 0 { leave; } if 0 { again; } return 0; } catch y { leave; } }")
        self.assertEqual({block[0]: block[2] for block in blocks if block[0] in ("s3", "s5", "s6", "s7")}, {
            "s3": ("go", "end"), "s5": ("go", "s0"), "s6": ("return", "t0"), "s7": ("go", "end"),
        })

    def test_whiles_within_rows_of_a_try(self):
        blocks = made("try { while 1 { raise 5; } } catch y { }")
        self.assertEqual(blocks[2], ("s2", [("set", "y", 5)], ("go", "end")))

    def test_the_block_end_stands_only_where_it_is_asked_for(self):
        for text, asked in [
            ("return 0;", False), ("raise 0;", False), ("read x; return x;", False), ("while 1 { } return 0;", False),
            ("", True), ("read x;", True), ("while 1 { }", True), ("while 1 { leave; }", True), ("x = call g();", True),
            ("try { return 0; } catch x { return 0; }", False), ("try { return 0; } catch x { }", False),
            ("try { raise 0; } catch x { }", True), ("while 1 { return 0; read x; } raise 1;", False),
            ("return 0; read x;", True), ("if 1 { return 0; }", True), ("end = 1; return end;", False),
            ("x = call end();", True),
        ]:
            with self.subTest(text):
                source = read_source("fun main() {" + text + "} fun g() { } fun end() { return 0; }")
                self.assertEqual(compiled(source)[1][0][2][-1:] == [FINAL], asked)

    def test_a_call_in_rows_of_a_try_whose_others_lead_to_the_end(self):
        self.check("try { x = call g(); return 0; } catch y { }", ("s0", [], ("go", "s1")),
                   ("s1", [], ("try", "x", "g", (), "s2", "y", "end")), ("s2", ZERO, ("return", "t0")), FINAL)

    def test_expressions(self):
        self.assertEqual(steps_of("x = 4;"), [("set", "x", 4)])
        self.assertEqual(steps_of("x = y;"), [("copy", "x", "y")])
        self.assertEqual(steps_of("x = x - y;"), [("copy", "t0", "x"), ("copy", "t1", "y"),
            ("deed", "x", "minus", "t0", "t1")])
        self.assertEqual(steps_of("print x;"), [("copy", "t0", "x"), ("print", "t0")])
        self.assertEqual(steps_of("return (1 < x) * (y == (2 over z));"), [
            ("set", "t0", 1), ("copy", "t1", "x"), ("deed", "t0", "less", "t0", "t1"), ("copy", "t1", "y"),
            ("set", "t2", 2),
            ("copy", "t3", "z"), ("deed", "t2", "over", "t2", "t3"), ("deed", "t1", "same", "t1", "t2"),
            ("deed", "t0", "times", "t0", "t1"),
        ])
        self.assertEqual(steps_of("x = 1 + (2 + 3) + 4;"), [
            ("set", "t0", 1), ("set", "t1", 2), ("set", "t2", 3), ("deed", "t1", "plus", "t1", "t2"),
            ("deed", "t0", "plus", "t0", "t1"),
            ("set", "t1", 4), ("deed", "x", "plus", "t0", "t1"),
        ])

    def test_given_expressions(self):
        self.assertEqual(made("x = call h(a rest 2, b - (c - 1));")[0], ("s0", [
            ("copy", "t0", "a"), ("set", "t1", 2), ("deed", "t0", "rest", "t0", "t1"), ("copy", "t1", "b"),
            ("copy", "t2", "c"),
            ("set", "t3", 1), ("deed", "t2", "minus", "t2", "t3"), ("deed", "t1", "minus", "t1", "t2"),
        ], ("call", "x", "h", ("t0", "t1"), "end")))

    def test_deep_expressions(self):
        for depth in [11, 60]:
            text = "1 - (" * depth + "x" + ")" * depth
            steps = steps_of(f"print {text};")
            self.assertEqual(steps[:depth + 1], [("set", f"t{k}", 1) for k in range(depth)] + [("copy", f"t{depth}",
                "x")])
            self.assertEqual(steps[-2:], [("deed", "t0", "minus", "t0", "t1"), ("print", "t0")])
            self.assertEqual(run(compiled(of_rows([("print", told(text))])), [], [], 9)[2], [depth % 2])

    def test_expressions_of_all_depths(self):
        for depth in range(12):
            for seed in range(12):
                dice = chance(seed)
                source = of_rows([("read", "x"), ("print", some_expression(dice, depth)),
                    ("return", some_expression(dice, depth))], ["a", "b"])
                outcome, printed, begun = source_run(source, [seed, -3], [5], 9)
                self.assertEqual(run(compiled(source), [seed, -3], [5], 1), (outcome, [], printed))

    def test_all_that_is_made_is_a_program(self):
        for source in [full_source()] + [some_source(chance(seed), deep=5) for seed in range(200)]:
            program = compiled(source)
            self.assertIs(is_program(program), True)
            for name, parameters, blocks in program[1]:
                self.assertLessEqual(len(blocks), 40)


def told(text):
    return read_source(f"fun f() {{ print {text}; }}")[1][0][2][0][1]


class SameRuns(unittest.TestCase):
    """[12]"""

    def test_many_sources(self):
        for seed in range(400):
            dice = chance(seed)
            source = some_source(dice)
            program = compiled(source)
            arguments = [dice.randint(-2, 5) for _ in source[1][0][1]]
            inputs = [dice.randint(-2, 5) for _ in range(dice.randint(0, 6))]
            outcome, printed, begun = source_run(source, arguments, inputs, 60)
            most = 2 * len(begun) + 1
            way = trace(program, arguments, inputs, most)
            if outcome != ("on",):
                self.assertEqual(run(program, arguments, inputs, most), (outcome, [], printed), seed)
                self.assertEqual(statements_gone(source, way), begun, seed)
                many = [begun.count(number) for number in range(how_many_statements(source))]
                self.assertEqual(statement_counts(source, recorded(program, way)), many, seed)
            for blocks in [0, 1, 2, 3, 9, 25]:
                gone = statements_gone(source, trace(program, arguments, inputs, blocks))
                shown = run(program, arguments, inputs, blocks)[2]
                longer = source_run(source, arguments, inputs, 400)
                self.assertEqual([gone, shown], [longer[2][:len(gone)], longer[1][:len(shown)]], seed)

    def test_the_greatest_number_of_blocks(self):
        rows = "while n { n = call f(n); try { } catch x { } } "
        source = read_source("fun main(n) {" + rows + "} fun f(n) { return n - 1; }")
        begun = source_run(source, [50], [], 10000)[2]
        self.assertEqual(run(compiled(source), [50], [], 2 * len(begun) + 1)[0], ("value", 0))
        empty = read_source("fun main() { }")
        self.assertEqual([run(compiled(empty), [], [], 1)[0], run(compiled(empty), [], [], 0)[0]],
            [("value", 0), ("on",)])

    def test_deep_calls(self):
        source = read_source("fun f(n) { if n { n = call f(n - 1); } raise 4; }")
        self.assertEqual(source_run(source, [3000], [], 10000)[0], ("fault", 4))
        program = compiled(source)
        self.assertEqual(run(program, [3000], [], 20000)[0], ("fault", 4))
        way = trace(program, [3000], [], 20000)
        self.assertEqual(statements_gone(source, way), source_run(source, [3000], [], 10000)[2])


class Places(unittest.TestCase):
    """[12]"""

    def test_the_block_of_each_statement(self):
        source = read_source("fun f() { read x; x = 1; if x { print x; read y; } while x { } x = 2; } fun g() { z = 1; }")
        self.assertEqual(places(source), [
            ("f", "s0"), ("f", "s0"), ("f", "s0"), ("f", "s3"), ("f", "s3"), ("f", "s5"), ("f", "s6"), ("g", "s7"),
        ])
        self.assertEqual(places(read_source("fun f() { }")), [])

    def test_each_opens_or_stands_behind_one(self):
        for seed in range(100):
            source = some_source(chance(seed))
            program = compiled(source)
            labels = [(name, block[0]) for name, parameters,
                blocks in program[1] for block in blocks if block[0] != "end"]
            told = places(source)
            self.assertEqual(len(told), how_many_statements(source))
            self.assertEqual([place for at, place in enumerate(told) if place not in told[:at]], labels)
            for at, (name, label) in enumerate(told):
                self.assertLessEqual(int(label[1:]), at)


class StatementsGone(unittest.TestCase):
    """[12]"""

    source = read_source("fun main() { read x; y = call f(x); print y; } fun f(n) { if n { raise n; } return 1; }")

    def test_whole_and_cut_ways(self):
        way = trace(compiled(self.source), [], [0], 9)
        self.assertEqual([edge[2] for edge in way], ["call", "no", "return", "value", "go", "return"])
        told = [[], [0, 1], [0, 1, 3], None, [0, 1, 3, 5], [0, 1, 3, 5, 2], [0, 1, 3, 5, 2]]
        for many, gone in enumerate(told):
            if gone is not None:
                self.assertEqual(statements_gone(self.source, way[:many]), gone)
        way = trace(compiled(self.source), [], [7], 9)
        self.assertEqual([edge[2] for edge in way], ["call", "yes", "raise", "fault"])
        self.assertEqual(statements_gone(self.source, way), [0, 1, 3, 4])

    def test_ways_that_no_run_goes(self):
        for seed in range(60):
            dice = chance(seed)
            source = some_source(dice)
            way, stack = some_way(compiled(source), dice, 40)
            places_of = places(source)
            told = [number for edge in way if edge[2] not in ("value", "fault")
                    for number, place in enumerate(places_of) if place == edge[:2]]
            self.assertEqual(statements_gone(source, way), told)

    def test_refusals(self):
        way = trace(compiled(self.source), [], [0], 9)
        for value in odd_values() + [tuple(way), way[:3], way + way[:1], way[1:], [("main", "s0", "go")],
            [list(way[0])]]:
            if value != []:
                with self.assertRaises(InvalidList) as caught:
                    statements_gone(self.source, value)
                self.assertIs(caught.exception.value, value)


class StatementCounts(unittest.TestCase):
    """[13]"""

    def test_of_merged_profiles(self):
        source = StatementsGone.source
        program = compiled(source)
        held = [recorded(program, trace(program, [], inputs, most)) for inputs,
            most in [([0], 9), ([7], 9), ([0], 1), ([0], 2), ([], 0)]]
        self.assertEqual([statement_counts(source, profile) for profile in held], [
            [1, 1, 1, 1, 0, 1], [1, 1, 0, 1, 1, 0], [1, 1, 0, 0, 0, 0], [1, 1, 0, 1, 0, 0], [0, 0, 0, 0, 0, 0],
        ])
        self.assertEqual(statement_counts(source, merged(program, held)), [4, 4, 1, 3, 1, 1])
        self.assertEqual(statement_counts(source, merged(program, [])), [0] * 6)

    def test_refusals(self):
        source = StatementsGone.source
        good = merged(compiled(source), [])
        for value in odd_values() + [good[:4], list(good), ("profile", 1, good[2][1:], good[3], good[4]),
            ("profile", True, *good[2:])]:
            with self.assertRaises(InvalidProfile) as caught:
                statement_counts(source, value)
            self.assertIs(caught.exception.value, value)


class Refusals(unittest.TestCase):
    """[2], [10] to [13]"""

    def test_what_is_no_source_is_refused_first(self):
        for value in odd_values() + [of_rows([("leave",)]), ("program", [])]:
            for function, more in [(compiled, ()), (places, ()), (statements_gone, (None,)),
                (statement_counts, (None,))]:
                with self.assertRaises(InvalidProgram) as caught:
                    function(value, *more)
                self.assertIs(caught.exception.value, value)

    def test_nothing_is_changed_and_all_lists_are_new(self):
        source = full_source()
        before = copy.deepcopy(source)
        first = compiled(source=source)
        first[1][0][1].clear()
        first[1][0][2][0][1].clear()
        first[1].clear()
        self.assertEqual(source, before)
        program = compiled(before)
        self.assertEqual(compiled(source), program)
        way = trace(program, [1, 2], [0], 9)
        statements_gone(way=way, source=source).clear()
        statement_counts(profile=recorded(program, way), source=source).clear()
        places(source=source).clear()
        self.assertEqual([source, way], [before, trace(program, [1, 2], [0], 9)])
        self.assertEqual(len(places(source)), 17)
