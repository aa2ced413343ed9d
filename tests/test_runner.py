import copy
import unittest

from fewprobes.errors import InvalidNumber, InvalidProgram
from fewprobes.runs import Runner, counters, run, trace
from makers import chance, some_program
from samples import odd_values, of_blocks

END = ("return", "x")


def printing():
    """Reads, counts and prints, without an end unless 9 is read."""
    return of_blocks([
        ("a", [("read", "x"), ("count", 2), ("print", "x"), ("set", "n", 9), ("deed", "y", "same", "x", "n")],
            ("test", "y", "b", "a")),
        ("b", [], END),
    ])


def calling():
    """main calls f with what it reads; f prints it and raises it, which main takes."""
    return ("program", [
        ("main", ["p"], [("a", [("read", "x")], ("try", "y", "f", ("x",), "b", "z", "b")),
            ("b", [("count", 1)], ("go", "a"))]),
        ("f", ["n"], [("a", [("print", "n")], ("test", "n", "b", "c")), ("b", [], ("return", "n")),
            ("c", [], ("raise", "n"))]),
    ])


class Going(unittest.TestCase):
    """[21]"""

    def test_attributes_at_creation(self):
        runner = Runner(printing(), [], [])
        self.assertIsNone(runner.outcome)
        self.assertEqual(runner.many, 0)
        self.assertEqual([runner.stack(), runner.printed(), runner.trace(), runner.counters()],
            [[("main", "a")], [], [], []])

    def test_step_by_step(self):
        runner = Runner(printing(), [], [4, 9, 5])
        self.assertIsNone(runner.step())
        self.assertEqual([runner.many, runner.stack(), runner.printed(), runner.counters()],
            [1, [("main", "a")], [4], [(2, 1)]])
        self.assertIsNone(runner.step())
        self.assertEqual([runner.many, runner.stack(), runner.trace()],
            [2, [("main", "b")], [("main", "a", "no"), ("main", "a", "yes")]])
        self.assertIsNone(runner.outcome)
        self.assertEqual(runner.step(), ("value", 9))
        self.assertEqual([runner.outcome, runner.many, runner.stack()], [("value", 9), 3, []])

    def test_behind_the_end(self):
        runner = Runner(printing(), [], [9])
        self.assertEqual(runner.go(20000), ("value", 9))
        other = runner.copy()
        for _ in range(3):
            self.assertEqual(runner.step(), ("value", 9))
            self.assertEqual(runner.go(5), ("value", 9))
            self.assertEqual(runner.go(0), ("value", 9))
        self.assertEqual([runner.many, len(runner.trace()), runner.printed()], [2, 2, [9]])
        self.assertEqual(runner, other)

    def test_go(self):
        runner = Runner(printing(), [], [1, 2, 9])
        self.assertEqual(runner.go(0), ("on",))
        self.assertEqual([runner.many, runner.outcome], [0, None])
        self.assertEqual(runner.go(2), ("on",))
        self.assertEqual([runner.many, runner.printed()], [2, [1, 2]])
        self.assertEqual(runner.go(2), ("value", 9))
        self.assertEqual([runner.many, runner.outcome], [4, ("value", 9)])

    def test_against_run_and_trace_at_each_bound(self):
        for seed in range(120):
            dice = chance(seed)
            program = some_program(dice)
            arguments = [dice.randint(-2, 5) for _ in program[1][0][1]]
            inputs = [dice.randint(-2, 5) for _ in range(dice.randint(0, 6))]
            runner = Runner(program, arguments, inputs)
            for most in range(12):
                outcome, stack, printed = run(program, arguments, inputs, most)
                self.assertEqual([runner.stack(), runner.printed()], [stack, printed])
                self.assertEqual(runner.outcome, None if outcome == ("on",) else outcome)
                self.assertEqual(runner.trace(), trace(program, arguments, inputs, most))
                self.assertEqual(runner.counters(), counters(program, arguments, inputs, most))
                self.assertEqual(runner.many, len([edge for edge in runner.trace() if edge[2] not in ("value",
                    "fault")]))
                self.assertEqual(runner, jumped(program, arguments, inputs, most))
                self.assertEqual(runner.step(), runner.outcome)

    def test_a_refused_go_changes_nothing(self):
        runner = Runner(printing(), [], [1, 2])
        runner.step()
        other = runner.copy()
        for value in odd_values() + [-1, 20001, "5", True, False]:
            if isinstance(value, bool) or value not in (0, 1, 7):
                with self.assertRaises(InvalidNumber) as caught:
                    runner.go(value)
                self.assertIs(caught.exception.value, value)
        self.assertEqual(runner, other)
        self.assertEqual(runner.many, 1)
        ended = Runner(printing(), [], [9])
        ended.go(2)
        with self.assertRaises(InvalidNumber):
            ended.go(-1)


def jumped(program, arguments, inputs, most):
    runner = Runner(program, arguments, inputs)
    runner.go(most=most)
    return runner


class Copies(unittest.TestCase):
    """[2], [21]"""

    def test_a_copy_goes_on_by_itself(self):
        runner = Runner(calling(), [5], [1, 0, 2])
        runner.go(4)
        other = runner.copy()
        self.assertEqual(runner, other)
        self.assertEqual([other.many, other.outcome], [4, None])
        held = [runner.stack(), runner.printed(), runner.trace(), runner.counters(), runner.many]
        other.go(9)
        self.assertEqual([runner.stack(), runner.printed(), runner.trace(), runner.counters(), runner.many], held)
        self.assertNotEqual(runner, other)
        runner.go(9)
        self.assertEqual(runner, other)
        self.assertEqual(runner.many, other.many)

    def test_a_copy_of_a_run_that_has_ended(self):
        runner = Runner(printing(), [], [9])
        runner.go(9)
        other = runner.copy()
        self.assertEqual([other, other.outcome, other.many, other.stack()], [runner, ("value", 9), 2, []])
        self.assertEqual(other.step(), ("value", 9))

    def test_a_copy_within_calls(self):
        for seed in range(60):
            dice = chance(seed)
            program = some_program(dice)
            arguments = [dice.randint(-2, 5) for _ in program[1][0][1]]
            runner = Runner(program, arguments, [1, 2, 3])
            for _ in range(8):
                other = runner.copy()
                self.assertEqual(other, runner)
                other.go(3)
                for _ in range(3):
                    runner.step()
                self.assertEqual(other, runner)
                self.assertEqual(other.many, runner.many)

    def test_lists_that_are_returned_belong_to_the_caller(self):
        runner = Runner(calling(), [5], [1, 0, 2])
        runner.go(7)
        other = runner.copy()
        for held in [runner.stack(), runner.printed(), runner.trace(), runner.counters()]:
            held.append(None)
            held.reverse()
        self.assertEqual(runner, other)
        self.assertEqual(runner.go(5), other.go(5))
        self.assertEqual(runner, other)

    def test_changing_what_was_handed_in_changes_nothing(self):
        program, arguments, inputs = calling(), [5], [1, 0, 2]
        runner = Runner(inputs=inputs, arguments=arguments, program=program)
        other = Runner(calling(), [5], [1, 0, 2])
        program[1][0][2][0][1].clear()
        program[1][0][2].clear()
        program[1][0][1].append("q")
        program[1].pop()
        arguments[0] = 7
        inputs.clear()
        self.assertEqual(runner, other)
        runner.go(9)
        other.go(9)
        self.assertEqual(runner, other)
        self.assertEqual(runner.printed(), run(calling(), [5], [1, 0, 2], 9)[2])

    def test_what_is_handed_in_stays(self):
        program, arguments, inputs = calling(), [5], [1, 0, 2]
        before = copy.deepcopy((program, arguments, inputs))
        runner = Runner(program, arguments, inputs)
        runner.go(20)
        runner.copy().go(20)
        self.assertEqual((program, arguments, inputs), before)


class Equality(unittest.TestCase):
    """[21]"""

    def unlike(self, one, other):
        self.assertFalse(one == other)
        self.assertTrue(one != other)

    def alike(self, one, other):
        self.assertTrue(one == other)
        self.assertFalse(one != other)

    def test_programs(self):
        self.unlike(Runner(printing(), [], []), Runner(of_blocks([("a", [], END)]), [], []))
        self.unlike(Runner(of_blocks([("a", [], END)]), [], []),
            Runner(of_blocks([("a", [("set", "x", 0)], END)]), [], []))
        self.alike(Runner(printing(), [], []), Runner(printing(), [], []))

    def test_names_in_each_call(self):
        self.unlike(Runner(calling(), [5], []), Runner(calling(), [6], []))
        one, other = jumped(calling(), [5], [1], 2), jumped(calling(), [6], [1], 2)
        self.unlike(one, other)
        self.alike(one, jumped(calling(), [5], [1], 2))

    def test_what_is_left_of_inputs(self):
        self.unlike(Runner(printing(), [], [1]), Runner(printing(), [], [2]))
        self.unlike(Runner(printing(), [], [0]), Runner(printing(), [], []))
        self.alike(jumped(printing(), [], [0], 1), jumped(printing(), [], [], 1))
        self.unlike(jumped(printing(), [], [0, 0], 1), jumped(printing(), [], [], 1))

    def test_what_was_printed(self):
        blocks = [("a", [("read", "x"), ("print", "x"), ("set", "x", 0)], ("go", "a"))]
        self.unlike(jumped(of_blocks(blocks), [], [1], 1), jumped(of_blocks(blocks), [], [2], 1))
        silent = [("a", [("read", "x"), ("set", "x", 0)], ("go", "a"))]
        self.alike(jumped(of_blocks(silent), [], [1], 1), jumped(of_blocks(silent), [], [2], 1))

    def test_traces_stacks_and_outcomes(self):
        loop = of_blocks([("a", [], ("go", "a"))])
        self.unlike(jumped(loop, [], [], 1), jumped(loop, [], [], 2))
        ending = of_blocks([("a", [], END)], parameters=["x", "y"])
        self.unlike(jumped(ending, [1, 2], [], 1), jumped(ending, [2, 2], [], 1))
        self.alike(jumped(ending, [1, 2], [], 1), jumped(ending, [1, 3], [], 1))
        self.unlike(Runner(ending, [1, 2], []), jumped(ending, [1, 2], [], 1))

    def test_counters(self):
        program = of_blocks([("a", [("count", 1)], ("go", "a"))])
        self.unlike(jumped(program, [], [], 1), jumped(program, [], [], 2))

    def test_how_it_came_there_does_not_count(self):
        one, other = Runner(printing(), [], [1, 2, 3]), Runner(printing(), [], [1, 2, 3])
        one.go(3)
        for _ in range(3):
            other.step()
        self.alike(one, other)

    def test_things_of_other_kinds(self):
        runner = Runner(printing(), [], [])
        for value in odd_values() + [printing(), InvalidProgram()]:
            self.unlike(runner, value)
            self.unlike(value, runner)
