import copy
import time
import unittest

from fewprobes.blocks import edges, is_program
from fewprobes.errors import InvalidList, InvalidProgram, TooMany
from fewprobes.profiles import recorded
from fewprobes.rebuild import counted, flagged, meant, overhead, rebuilt
from fewprobes.runs import Runner, counters, counts, run, trace
from fewprobes.seen import seen_in
from makers import chance, some_program
from samples import many_words, odd_values, of_blocks

END = ("return", "x")


def shown():
    """The program of the document's example: main calls f, which ends by a value or by a fault."""
    return ("program", [
        ("main", [], [("d", [("read", "x")], ("call", "y", "f", ("x",), "e")), ("e", [], ("return", "y"))]),
        ("f", ["n"], [("a", [], ("test", "n", "b", "c")), ("b", [], ("return", "n")), ("c", [], ("raise", "n"))]),
    ])


PROBES = [("f", "a", "no"), ("main", "d", "fault"), ("f", "b", "return")]


def all_ends():
    """Each kind of end; c0 is a label, c1 a name and a function."""
    return ("program", [
        ("main", [], [
            ("c0", [("count", 4), ("set", "x", 2)], ("test", "x", "b", "b")),
            ("b", [], ("try", "y", "c1", ("x",), "d", "z", "d")),
            ("d", [("count", 0)], ("call", "y", "c1", ("x",), "e")),
            ("e", [("print", "y")], ("go", "f")),
            ("f", [], ("raise", "c1")),
        ]),
        ("c1", ["c0"], [("a", [("copy", "y", "c0")], ("call", "y", "g", (), "c2")), ("c2", [], ("return", "y"))]),
        ("g", [], [("a", [], ("raise", "x"))]),
    ])


class Refusing(unittest.TestCase):
    def refuses(self, kind, value, function, *arguments):
        with self.assertRaises(kind) as caught:
            function(*arguments)
        self.assertIs(caught.exception.value, value)

    def test_programs_first(self):
        for value in odd_values() + [("program", [])]:
            self.refuses(InvalidProgram, value, rebuilt, value, None)
            self.refuses(InvalidProgram, value, meant, value, None, None)
            self.refuses(InvalidProgram, value, counted, value, None, None, None)
            self.refuses(InvalidProgram, value, flagged, value, None, None, None)
            self.refuses(InvalidProgram, value, overhead, value, None, None)

    def test_probes_behind_programs(self):
        program, edge = shown(), ("main", "d", "call")
        for value in odd_values() + [[edge, edge], (edge,), [edge, None], [("main", "d", "stands")], [list(edge)],
                [("main", "d", "waits")], {edge: True}]:
            if value != []:
                self.refuses(InvalidList, value, rebuilt, program, value)
                self.refuses(InvalidList, value, meant, program, value, None)
                self.refuses(InvalidList, value, counted, program, value, None, None)
                self.refuses(InvalidList, value, flagged, program, value, None, None)
                self.refuses(InvalidList, value, overhead, program, value, None)

    def test_counters_behind_probes(self):
        program = shown()
        for value in odd_values() + [((0, 1),), [[0, 1]], [(0,)], [(0, 1, 2)], [(0, -1)], [(-1, 0)], [(True, 1)],
                [(0, True)], [(0, 1), (0, 1)], [(1, 1), (0, 1)], [(0, 1), None], [("0", 1)], {(0, 1): 1}]:
            if value != []:
                self.refuses(InvalidList, value, counted, program, PROBES, value, None)
                self.refuses(InvalidList, value, flagged, program, PROBES, value, None)
        for value in [[(0, 0)], [(0, 10 ** 29), (10 ** 29, 0)], []]:
            self.assertEqual(len(counted(program, PROBES, value, [])), 3)

    def test_stacks_last(self):
        program = shown()
        for value in odd_values() + [(("main", "d"),), [["main", "d"]], [("main",)], [("main", "d", "call")],
                [("main", "a")], [("f", "c1")], [("main", "c1")], [("main", "d"), None], [("main", "d", None)],
                [("main", "c0"), ("f", ["c0"])], {("main", "d"): 1}, [("c0", "main")]]:
            if value != []:
                self.refuses(InvalidList, value, meant, program, PROBES, value)
                self.refuses(InvalidList, value, counted, program, PROBES, [(0, 1)], value)
                self.refuses(InvalidList, value, flagged, program, PROBES, [(0, 1)], value)
        value = [("f", "c0")]
        self.refuses(InvalidList, value, meant, program, PROBES[1:], value)

    def test_numbers_last(self):
        program = shown()
        for value in odd_values() + [[1, 2], [1, 2, 3, 4], [1, 2, -1], [1, 2, True], [1, 2, "3"], (1, 2, 3)]:
            self.refuses(InvalidList, value, overhead, program, PROBES, value)
        self.refuses(InvalidList, 0, overhead, program, [], 0)
        self.assertEqual(overhead(program, [], []), (0, 0))


class Rebuilding(unittest.TestCase):
    """[44]"""

    def test_of_the_example(self):
        made = rebuilt(shown(), PROBES)
        self.assertEqual(made, ("program", [
            ("main", [], [("d", [("read", "x")], ("try", "y", "f", ("x",), "e", "c0", "c0")),
                ("e", [], ("return", "y")), ("c0", [("count", 1)], ("raise", "c0"))]),
            ("f", ["n"], [("a", [], ("test", "n", "b", "c0")), ("b", [("count", 2)], ("return", "n")),
                ("c", [], ("raise", "n")), ("c0", [("count", 0)], ("go", "c"))]),
        ]))

    def test_a_probe_at_each_way(self):
        program = all_ends()
        probes = edges(program)
        self.assertEqual(len(probes), 15)
        made = rebuilt(program, probes)
        self.assertIs(is_program(made), True)
        self.assertEqual(made, ("program", [
            ("main", [], [
                ("c0", [("count", 4), ("set", "x", 2)], ("test", "x", "c1", "c2")),
                ("b", [("count", 7)], ("try", "y", "c1", ("x",), "c3", "z", "c4")),
                ("d", [("count", 0), ("count", 10)], ("try", "y", "c1", ("x",), "c5", "c0", "c6")),
                ("e", [("print", "y"), ("count", 13)], ("go", "f")),
                ("f", [("count", 14)], ("raise", "c1")),
                ("c1", [("count", 5)], ("go", "b")), ("c2", [("count", 6)], ("go", "b")),
                ("c3", [("count", 8)], ("go", "d")), ("c4", [("count", 9)], ("go", "d")),
                ("c5", [("count", 11)], ("go", "e")), ("c6", [("count", 12)], ("raise", "c0")),
            ]),
            ("c1", ["c0"], [
                ("a", [("copy", "y", "c0"), ("count", 15)], ("try", "y", "g", (), "c0", "c1", "c1")),
                ("c2", [("count", 18)], ("return", "y")),
                ("c0", [("count", 16)], ("go", "c2")), ("c1", [("count", 17)], ("raise", "c1")),
            ]),
            ("g", [], [("a", [("count", 19)], ("raise", "x"))]),
        ]))

    def test_probes_in_another_order_have_other_counters_alone(self):
        program = all_ends()
        probes = edges(program)
        made, turned = rebuilt(program, probes), rebuilt(program, probes[::-1])

        def swapped(part):
            if isinstance(part, tuple) and part[:1] == ("count",):
                return ("count", part[1] if part[1] < 5 else 24 - part[1])
            return type(part)(swapped(each) for each in part) if isinstance(part, (list, tuple)) else part

        self.assertEqual(swapped(made), turned)
        self.assertNotEqual(made, turned)

    def test_some_ways_of_one_block(self):
        block = [("a", [], ("call", "x", "f", (), "b")), ("b", [], END)]
        other = ("f", [], [("a", [], END)])
        for ways, made in [
            (["call"], [("a", [("count", 0)], ("call", "x", "f", (), "b")), ("b", [], END)]),
            (["value"], [("a", [], ("call", "x", "f", (), "c0")), ("b", [], END), ("c0", [("count", 0)], ("go", "b"))]),
            (["fault"], [("a", [], ("try", "x", "f", (), "b", "c0", "c0")), ("b", [], END),
                ("c0", [("count", 0)], ("raise", "c0"))]),
            (["fault", "value"], [("a", [], ("try", "x", "f", (), "c0", "c0", "c1")), ("b", [], END),
                ("c0", [("count", 1)], ("go", "b")), ("c1", [("count", 0)], ("raise", "c0"))]),
        ]:
            program = ("program", [("main", [], block), other])
            self.assertEqual(rebuilt(program, [("main", "a", way) for way in ways]), ("program", [("main", [], made),
                other]))

    def test_one_side_of_a_test_whose_labels_are_one(self):
        program = of_blocks([("a", [], ("test", "x", "a", "a"))])
        self.assertEqual(rebuilt(program, [("main", "a", "no")]), of_blocks([
            ("a", [], ("test", "x", "a", "c0")), ("c0", [("count", 0)], ("go", "a"))]))
        self.assertEqual(rebuilt(program, [("main", "a", "no"), ("main", "a", "yes")]), of_blocks([
            ("a", [], ("test", "x", "c0", "c1")), ("c0", [("count", 1)], ("go", "a")),
            ("c1", [("count", 0)], ("go", "a"))]))

    def test_words_that_are_taken_as_names(self):
        for steps, end, name in [
            ([], ("return", "c0"), "c1"), ([("set", "c0", 0)], END, "c1"), ([("copy", "x", "c0")], END, "c1"),
            ([("deed", "c1", "plus", "c0", "c2")], END, "c3"), ([("read", "c0"), ("print", "c1")], END, "c2"),
            ([], ("raise", "c0"), "c1"), ([], ("test", "c0", "b", "b"), "c1"), ([], ("go", "b"), "c0"),
            ([], ("call", "c0", "c1", (), "b"), "c1"), ([], ("call", "x", "f", ("c0", "c1"), "b"), "c2"),
            ([], ("try", "x", "f", ("c0", "x"), "b", "c1", "b"), "c2"), ([("count", 0)], END, "c0"),
            ([("copy", "c0", "x")], END, "c1"), ([], ("try", "c0", "f", ("x", "x"), "b", "y", "b"), "c1"),
        ]:
            blocks = [("a", [], ("call", "x", "c1", (), "b")), ("b", [], END), ("c5", steps, end)]
            program = ("program", [("main", [], blocks), ("c1", [], [("c0", [("set", "c0", 1)], END)]),
                ("f", ["c0", "c3"], [("a", [], ("call", "c1", "c1", (), "a"))])])
            made = rebuilt(program, [("main", "a", "fault"), ("f", "a", "fault")])
            self.assertEqual(made[1][0][2][0], ("a", [], ("try", "x", "c1", (), "b", name, "c0")))
            self.assertEqual(made[1][0][2][3][0], "c0")
            self.assertEqual(made[1][0][2][3][2], ("raise", name))
            self.assertEqual(made[1][2][2][0][2], ("try", "c1", "c1", (), "a", "c2", "c0"))

    def test_words_that_are_taken_as_labels(self):
        blocks = [("c1", [], ("test", "x", "c0", "c3")), ("c0", [], END), ("c3", [], ("go", "c1"))]
        made = rebuilt(of_blocks(blocks), [("main", "c1", "yes"), ("main", "c1", "no")])
        self.assertEqual(made[1][0][2][3:], [("c2", [("count", 0)], ("go", "c0")), ("c4", [("count", 1)],
            ("go", "c3"))])

    def test_numbers_above_those_of_the_program(self):
        for number in [0, 7, 997]:
            program = ("program", [("main", [], [("a", [], ("go", "a"))]), ("f", [], [("a", [("count", number),
                ("count", 0)], ("go", "a"))])])
            made = rebuilt(program, [("f", "a", "go"), ("main", "a", "go")])
            self.assertEqual(made[1][0][2][0][1], [("count", number + 2)])
            self.assertEqual(made[1][1][2][0][1], [("count", number), ("count", 0), ("count", number + 1)])

    def test_no_probes(self):
        for program in [shown(), all_ends(), of_blocks([("a", [("count", 999)], END)])]:
            self.assertEqual(rebuilt(program, []), program)

    def test_too_many_counters(self):
        for number, many, greatest in [(999, 1, 1000), (998, 1, None), (998, 2, 1000), (997, 2, None), (990, 15, 1005)]:
            program = all_ends()
            program[1][2][2][0][1].append(("count", number))
            if greatest is None:
                self.assertIs(is_program(rebuilt(program, edges(program)[:many])), True)
                continue
            with self.assertRaises(TooMany) as caught:
                rebuilt(program, edges(program)[:many])
            self.assertEqual(caught.exception.value, greatest)

    def test_too_many_blocks(self):
        labels = many_words(107)
        blocks = [(label, [], ("test", "x", label, label)) for label in labels[:27]]
        blocks += [(label, [], ("go", label)) for label in labels[27:]]
        short = ("f", [], [("a", [], END)])
        program = ("program", [short, ("main", [], blocks), ("g", [], blocks)])
        tests = [edge for edge in edges(program) if edge[2] in ("yes", "no")]
        self.assertEqual(len(tests), 108)
        self.assertEqual(len(rebuilt(program, tests[:53] + edges(program)[60:80])[1][1][2]), 160)
        for probes, many in [(tests[:54], 161), (tests[54:], 161), (tests[1:54] + tests[60:61], None)]:
            if many is None:
                self.assertEqual(len(rebuilt(program, probes)[1][2][2]), 108)
                continue
            with self.assertRaises(TooMany) as caught:
                rebuilt(program, probes)
            self.assertEqual(caught.exception.value, many)
        program[1][0][2][0][1].append(("count", 946))
        with self.assertRaises(TooMany) as caught:
            rebuilt(program, tests[:54])
        self.assertEqual(caught.exception.value, 1000)
        program[1][0][2][0][1][0] = ("count", 945)
        with self.assertRaises(TooMany) as caught:
            rebuilt(program, tests[54:])
        self.assertEqual(caught.exception.value, 161)

    def test_the_rebuilt_program_rebuilt_again(self):
        program = shown()
        made = rebuilt(rebuilt(program, PROBES), [("main", "c0", "raise"), ("f", "c0", "go"), ("f", "a", "no")])
        self.assertEqual(made[1][0][2][2], ("c0", [("count", 1), ("count", 3)], ("raise", "c0")))
        self.assertEqual(made[1][1][2][3:], [("c0", [("count", 0), ("count", 4)], ("go", "c")),
            ("c1", [("count", 5)], ("go", "c0"))])
        self.assertEqual(counters(made, [], [0], 99), [(0, 1), (1, 1), (3, 1), (4, 1), (5, 1)])
        for seed in range(30):
            dice = chance(seed)
            program = some_program(dice)
            for _ in range(3):
                program = without_counter_999(program)
                probes = dice.sample(edges(program), dice.randint(0, len(edges(program))))
                made = rebuilt(program, probes)
                self.assertIs(is_program(made), True)
                program = made


def without_counter_999(program):
    """The program, but for its greatest counter, above which there is none."""
    functions = []
    for name, parameters, blocks in program[1]:
        blocks = [(label, [step for step in steps if step != ("count", 999)], end) for label, steps, end in blocks]
        functions.append((name, parameters, blocks))
    return ("program", functions)


class SamePoints(unittest.TestCase):
    """[45], [46], [47]: runs of both programs block by block."""

    def check(self, program, probes, arguments, inputs, most):
        """Goes through both runs; returns how many probes were late in all."""
        made = rebuilt(program, probes)
        own_blocks = {(function[0], block[0]) for function in program[1] for block in function[2]}
        first = rebuilt_first(program)
        plain, other = Runner(program, arguments, inputs), Runner(made, arguments, inputs)
        late_ones = 0
        for _ in range(most):
            late_ones += self.same_point(program, probes, first, plain, other)
            if other.outcome is not None:
                break
            if other.stack()[-1] in own_blocks:
                plain.step()
            other.step()
        self.same_point(program, probes, first, plain, other)
        if other.outcome is not None:
            self.assertEqual(plain.outcome, other.outcome)
            numbers = counted(program, probes, other.counters(), [])
            more = (other.many - plain.many, sum(many for k, many in other.counters())
                - sum(many for k, many in plain.counters()))
            self.assertEqual(overhead(program, probes, numbers), more)
        return late_ones

    def same_point(self, program, probes, first, plain, other):
        stack, told = other.stack(), other.counters()
        own, late = meant(program, probes, stack)
        self.assertEqual(own, plain.stack())
        self.assertIsNot(own, stack)
        gone = plain.trace()
        known = dict(zip(edges(program), counts(program, gone)))
        numbers = [known[probe] for probe in probes]
        self.assertEqual(counted(program, probes, told, stack), numbers)
        self.assertEqual(flagged(program, probes, told, stack), seen_in(program, probes, recorded(program, gone)))
        self.assertEqual([number - dict(told).get(first + k, 0) for k, number in enumerate(numbers)],
            [late.count(probe) for probe in probes])
        held = [edge for edge in gone if edge in probes]
        self.assertEqual(held[len(held) - len(late):], late)
        self.assertEqual(plain.printed(), other.printed())
        self.assertEqual([pair for pair in told if pair[0] < first], plain.counters())
        return len(late)

    def test_of_the_example(self):
        for inputs in [[0], [5], []]:
            self.check(shown(), PROBES, [], inputs, 99)
            self.check(shown(), edges(shown()), [], inputs, 99)
            self.check(shown(), [], [], inputs, 99)
        made = rebuilt(shown(), PROBES)
        self.assertEqual(meant(shown(), PROBES, [("main", "c0")]), ([], [("main", "d", "fault")]))
        self.assertEqual(meant(shown(), PROBES, run(made, [], [0], 2)[1]), ([("main", "d"), ("f", "c")],
            [("f", "a", "no")]))
        self.assertEqual(counted(shown(), PROBES, [(0, 1)], [("main", "c0")]), [1, 1, 0])
        self.assertEqual(flagged(shown(), PROBES, [], [("main", "d"), ("f", "c0")]), [("f", "a", "no"),
            ("main", "d", "waits"), ("f", "c", "stands")])
        self.assertEqual(overhead(shown(), PROBES, [1, 1, 0]), (2, 2))

    def test_runs_of_all_ends(self):
        program = all_ends()
        self.check(program, edges(program), [], [], 99)
        for edge in edges(program):
            self.check(program, [edge], [], [], 99)

    def test_programs_made_by_chance(self):
        late = 0
        for seed in range(250):
            dice = chance(seed)
            program = without_counter_999(some_program(dice))
            probes = dice.sample(edges(program), dice.randint(0, len(edges(program))))
            arguments = [dice.randint(-2, 2) for _ in program[1][0][1]]
            inputs = [dice.choice([0, 0, 1, 2]) for _ in range(6)]
            late += self.check(program, probes, arguments, inputs, 40)
        self.assertGreater(late, 300)

    def test_faults_through_calls_up_to_a_try(self):
        program = ("program", [
            ("main", [], [("a", [], ("try", "x", "f", (), "b", "y", "c")), ("b", [], END), ("c", [], ("return", "y"))]),
            ("f", [], [("a", [], ("call", "x", "g", (), "b")), ("b", [], END)]),
            ("g", [], [("a", [], ("call", "x", "h", (), "b")), ("b", [], END)]),
            ("h", [], [("a", [("set", "x", 7)], ("raise", "x"))]),
        ])
        for kept in range(8):
            probes = [edge for k, edge in enumerate([("g", "a", "fault"), ("main", "a", "fault"), ("f", "a", "fault")])
                if kept >> k & 1] + [("h", "a", "raise")]
            self.check(program, probes, [], [], 99)
        probes = [("f", "a", "fault"), ("main", "a", "fault")]
        stack = [("main", "a"), ("f", "c0")]
        self.assertEqual(meant(program, probes, stack), ([("main", "c")], probes))
        probes = [("g", "a", "fault")]
        self.assertEqual(meant(program, probes, [("main", "a"), ("f", "a"), ("g", "c0")]), ([("main", "c")], probes))

    def test_two_thousand_calls_that_wait(self):
        program = of_blocks([("a", [("copy", "m", "n"), ("set", "one", 1), ("deed", "m", "minus", "n", "one")],
            ("test", "n", "b", "c")), ("b", [], ("call", "x", "main", ("m",), "d")), ("c", [], ("raise", "n")),
            ("d", [], END)], parameters=["n"])
        probes = [("main", "b", "fault"), ("main", "a", "yes"), ("main", "c", "raise")]
        made = rebuilt(program, probes)
        begin = time.perf_counter()
        outcome, stack, printed = run(made, [2000], [], 6001)
        self.assertEqual([outcome, len(stack)], [("on",), 2001])
        own, late = meant(program, probes, stack)
        self.assertEqual(own, [("main", "b")] * 2000 + [("main", "c")])
        told = counters(made, [2000], [], 6002)
        stack = run(made, [2000], [], 6002)[1]
        self.assertEqual(stack, [("main", "b")] * 1999 + [("main", "c1")])
        self.assertEqual(meant(program, probes, stack), ([], [("main", "b", "fault")] * 2000))
        self.assertEqual(counted(program, probes, told, stack), [2000, 2000, 1])
        self.assertEqual(flagged(program, probes, told, stack), [("main", "a", "yes"), ("main", "b", "fault"),
            ("main", "c", "raise")])
        self.assertLess(time.perf_counter() - begin, 10)
        self.assertEqual(run(made, [2000], [], 9999)[0], ("fault", 0))

    def test_the_empty_stack(self):
        for function, more in [(meant, ()), (counted, ([],)), (flagged, ([],))]:
            found = function(shown(), PROBES, *more, [])
            self.assertEqual(found, {meant: ([], []), counted: [0, 0, 0], flagged: []}[function])

    def test_stacks_of_the_right_form_that_stand_behind_no_way_are_not_refused(self):
        program = shown()
        for stack in [[("main", "c0")] * 3, [("main", "e"), ("main", "c0")], [("f", "c0"), ("main", "d")],
                [("f", "a"), ("f", "c0"), ("f", "c0")], [("f", "b"), ("main", "e")]]:
            own, late = meant(program, PROBES, stack)
            self.assertEqual(len(counted(program, PROBES, [], stack)), 3)
            self.assertIsInstance(flagged(program, PROBES, [], stack), list)
            if stack[-1][1] != "c0":
                self.assertEqual([own, late], [stack, []])

    def test_stacks_where_there_is_no_such_program(self):
        labels = many_words(107)
        blocks = [(label, [("count", 990)], ("test", "x", label, label)) for label in labels]
        program = of_blocks(blocks)
        probes = edges(program)
        with self.assertRaises(TooMany):
            rebuilt(program, probes)
        self.assertEqual(meant(program, probes, [("main", "c213")]), ([("main", "w106")], [("main", "w106", "no")]))
        self.assertEqual(counted(program, probes, [(990, 5), (1204, 2)], [("main", "c213")])[-2:], [0, 3])
        self.assertEqual(overhead(program, probes, [1] * 214), (214, 214))

    def test_overhead_of_each_way(self):
        program = all_ends()
        for edge in edges(program):
            more = 7 if edge[2] in ("yes", "no", "value", "fault") else 0
            self.assertEqual(overhead(program, [edge], [7]), (more, 7))
        self.assertEqual(overhead(program, edges(program), list(range(15))), (0 + 1 + 3 + 4 + 6 + 7 + 11 + 12, 105))


def rebuilt_first(program):
    """The number of the first counter of probes."""
    used = [step[1] for function in program[1] for block in function[2] for step in block[1] if step[0] == "count"]
    return max(used, default=-1) + 1


class Plainness(unittest.TestCase):
    """[2], [3]"""

    def test_nothing_is_changed_and_all_is_new(self):
        program, probes, told, stack = all_ends(), edges(all_ends()), [(5, 1)], [("main", "b"), ("c1", "c1")]
        before = copy.deepcopy([program, probes, told, stack])
        made = rebuilt(program, probes)
        kept = copy.deepcopy(made)
        for name, parameters, blocks in made[1]:
            for label, steps, end in blocks:
                steps.append(1)
            parameters.append(1)
            blocks.append(1)
        made[1].clear()
        self.assertEqual([program, rebuilt(program, probes)], [before[0], kept])
        for call in [lambda: meant(program, probes, stack), lambda: counted(program, probes, told, stack),
                lambda: flagged(program, probes, told, stack), lambda: overhead(program, probes, [1] * 15)]:
            first = call()
            kept = copy.deepcopy(first)
            for part in first:
                if isinstance(part, list):
                    part.clear()
            if isinstance(first, list):
                first.clear()
            self.assertEqual(call(), kept)
        made = rebuilt(program, [])
        self.assertIsNot(made[1], program[1])
        made[1][0][2][0][1].clear()
        self.assertEqual([program, probes, told, stack], before)

    def test_arguments_by_their_names(self):
        program = shown()
        self.assertEqual(rebuilt(program=program, probes=[]), program)
        self.assertEqual(meant(program=program, probes=PROBES, stack=[]), ([], []))
        self.assertEqual(counted(program=program, probes=PROBES, counters=[], stack=[]), [0, 0, 0])
        self.assertEqual(flagged(program=program, probes=PROBES, counters=[], stack=[]), [])
        self.assertEqual(overhead(program=program, probes=PROBES, numbers=[1, 1, 0]), (2, 2))

    def test_great_programs_within_seconds(self):
        begin = time.perf_counter()
        blocks = [(f"b{k}", [], ("call", "x", "f", (), f"b{(k + 1) % 39}")) for k in range(39)] + [("end", [], END)]
        program = ("program", [("f", [], blocks)])
        made = rebuilt(program, edges(program))
        self.assertEqual(len(made[1][0][2]), 40 + 78)
        stack = [("f", "b0")] * 3000 + [("f", "c1")]
        self.assertEqual(counted(program, edges(program), [], stack)[:3], [0, 0, 3001])
        self.assertEqual(trace(made, [], [], 20000)[0], ("f", "b0", "call"))
        self.assertLess(time.perf_counter() - begin, 10)
