import copy
import unittest

from fewprobes.errors import InvalidList, InvalidNumber, InvalidProgram
from fewprobes.readings import read_source
from fewprobes.sourceruns import source_run
from makers import chance, some_source, told_run
from samples import full_source, odd_values, of_rows


def ran(text, arguments=(), inputs=(), most=10000):
    return source_run(read_source(text), list(arguments), list(inputs), most)


def main(rows):
    """The text of a source of one function without parameters."""
    return "fun main() { " + rows + " }"


class Statements(unittest.TestCase):
    """[7]"""

    def test_set_and_return(self):
        self.assertEqual(ran(main("x = 3; y = x; return y;")), (("value", 3), [], [0, 1, 2]))

    def test_a_function_ends_with_0_behind_its_last_statement(self):
        self.assertEqual(ran(main("x = 3;")), (("value", 0), [], [0]))
        self.assertEqual(ran(main("")), (("value", 0), [], []))
        self.assertEqual(ran(main("x = 5; x = call f(); print x;") + " fun f() { y = 2; }")[1], [0])
        self.assertEqual(ran(main("x = 5; x = call f(); print x;") + " fun f() { }"), (("value", 0), [0], [0, 1, 2]))

    def test_read_goes_on_with_0_behind_the_end(self):
        self.assertEqual(ran(main("read x; print x; read x; print x; read x; print x;"), [], [7, -2])[1], [7, -2, 0])

    def test_names_that_were_never_set_are_0(self):
        self.assertEqual(ran(main("print a; print b + 1; b = a;")), (("value", 0), [0, 1], [0, 1, 2]))

    def test_arguments_are_the_parameters_in_order(self):
        self.assertEqual(ran("fun main(b, a) { print a; print b; }", [5, 6])[1], [6, 5])

    def test_each_call_has_its_own_names(self):
        text = "fun main(n) { x = n; if n { y = call main(n - 1); } print x; return y; }"
        self.assertEqual(ran(text, [2]), (("value", 0), [0, 1, 2], [0, 1, 2, 0, 1, 2, 0, 1, 3, 4, 3, 4, 3, 4]))

    def test_given_expressions_are_told_in_the_names_of_the_caller(self):
        text = "fun main() { a = 1; b = 2; x = call f(b, a + b); print x; print a; } fun f(a, b) { return a * 10 + b; }"
        self.assertEqual(ran(text)[1], [23, 1])

    def test_signs(self):
        for sign, y, z, n in [
            ("+", "7", "2", 9), ("-", "2", "7", -5), ("*", "7", "2", 14), ("<", "1", "2", 1), ("<", "2", "2", 0),
            ("==", "2", "2", 1), ("==", "1", "2", 0),
            ("over", "7", "2", 3), ("over", "(0 - 7)", "2", -4), ("over", "7", "(0 - 2)", -4),
            ("over", "(0 - 7)", "(0 - 2)", 3), ("over", "7", "0", 0), ("over", "(0 - 7)", "0", 0),
            ("over", "0", "0", 0),
            ("rest", "7", "2", 1), ("rest", "(0 - 7)", "2", 1), ("rest", "7", "(0 - 2)", -1),
            ("rest", "(0 - 7)", "(0 - 2)", -1), ("rest", "7", "0", 7), ("rest", "(0 - 7)", "0", -7),
            ("rest", "6", "3", 0),
        ]:
            with self.subTest(sign=sign, y=y, z=z):
                self.assertEqual(ran(main(f"return {y} {sign} {z};"))[0], ("value", n))

    def test_great_numbers(self):
        n = 10 ** 29 + 7
        self.assertEqual(ran(main(f"return {n} * {n};"))[0], ("value", n * n))

    def test_if(self):
        text = "fun main(n) { if n { print 1; } else { print 2; } if n { print 3; } print 4; }"
        self.assertEqual(ran(text, [0]), (("value", 0), [2, 4], [0, 2, 3, 5]))
        self.assertEqual(ran(text, [-1]), (("value", 0), [1, 3, 4], [0, 1, 3, 4, 5]))

    def test_while_is_begun_anew_each_time(self):
        self.assertEqual(ran("fun main(n) { while n { n = n - 1; } }", [2]), (("value", 0), [], [0, 1, 0, 1, 0]))
        self.assertEqual(ran("fun main(n) { while n { } }", [0]), (("value", 0), [], [0]))
        self.assertEqual(ran("fun main(n) { while n { } }", [3], [], 4), (("on",), [], [0, 0, 0, 0]))

    def test_leave_and_again_go_through_ifs_and_tries(self):
        rows = "while 1 { n = n + 1; if n < 3 { try { again; } catch x { } } try { if 1 { leave; } } catch y { } }"
        self.assertEqual(ran(main(rows + " return n;")), (
            ("value", 3), [], [0, 1, 2, 3, 4, 0, 1, 2, 3, 4, 0, 1, 2, 5, 6, 7, 8],
        ))

    def test_leave_and_again_are_of_the_innermost_while(self):
        rows = "while n < 2 { n = n + 1; while 1 { m = m + 1; if m rest 2 { again; } leave; } print m; }"
        self.assertEqual(ran(main(rows))[1], [2, 4])

    def test_leave_within_others_of_a_try(self):
        self.assertEqual(ran(main("while 1 { try { raise 4; } catch x { leave; } } return x;"))[0], ("value", 4))

    def test_statements_behind_a_leap_are_not_begun(self):
        self.assertEqual(ran(main("return 1; print 2;")), (("value", 1), [], [0]))
        self.assertEqual(ran(main("raise 1; print 2;")), (("fault", 1), [], [0]))
        self.assertEqual(ran(main("while 1 { leave; print 2; } print 3;")), (("value", 0), [3], [0, 1, 3]))


class Faults(unittest.TestCase):
    """[7]"""

    def test_in_rows(self):
        self.assertEqual(ran(main("try { raise 5; print 1; } catch x { print x; } print x + 1;")), (
            ("value", 0), [5, 6], [0, 1, 3, 4],
        ))

    def test_none_is_told(self):
        self.assertEqual(ran(main("try { print 1; } catch x { print x; } print 2;")), (("value", 0), [1, 2], [0, 1, 3]))

    def test_empty_rows_and_empty_others(self):
        self.assertEqual(ran(main("try { } catch x { print 1; } print x;"))[1], [0])
        self.assertEqual(ran(main("try { raise 3; } catch x { } print x;"))[1], [3])

    def test_in_a_called_function(self):
        text = main("try { y = call f(2); print 1; } catch x { print x; print y; }") + " fun f(n) { raise n * 10; }"
        self.assertEqual(ran(text), (("value", 0), [20, 0], [0, 1, 5, 3, 4]))

    def test_through_several_calls(self):
        text = main("try { y = call f(); } catch x { return x; }")
        text += " fun f() { y = call g(); print 1; } fun g() { try { y = call h(); } catch z { raise z + 1; } }"
        self.assertEqual(ran(text + " fun h() { raise 6; }"), (("value", 7), [], [0, 1, 3, 5, 6, 8, 7, 2]))

    def test_within_others_the_try_does_not_take_it(self):
        self.assertEqual(ran(main("try { raise 1; } catch x { raise x + 1; }"))[0], ("fault", 2))
        text = main("try { try { raise 1; } catch x { raise x + 1; } print 9; } catch y { return y * 10; }")
        self.assertEqual(ran(text), (("value", 20), [], [0, 1, 2, 3, 5]))

    def test_a_try_within_a_try_takes_it_first(self):
        text = main("try { try { raise 1; } catch x { print x; } print 8; } catch y { print 9; }")
        self.assertEqual(ran(text)[1], [1, 8])

    def test_a_call_within_others(self):
        text = main("try { raise 1; } catch x { y = call f(); }") + " fun f() { raise 4; }"
        self.assertEqual(ran(text)[0], ("fault", 4))

    def test_of_a_while_within_a_try(self):
        text = main("try { while 1 { n = n + 1; if n == 3 { raise n; } } } catch n { return n + 1; }")
        self.assertEqual(ran(text)[0], ("value", 4))

    def test_no_try_takes_it(self):
        self.assertEqual(ran(main("x = call f(); print 1;") + " fun f() { raise 0 - 3; }"), (("fault", -3), [], [0, 2]))


class Bounds(unittest.TestCase):
    """[7]"""

    def test_none_is_begun(self):
        self.assertEqual(ran(main("x = 1;"), most=0), (("on",), [], []))
        self.assertEqual(ran(main(""), most=0), (("value", 0), [], []))

    def test_just_enough_and_one_less(self):
        text = main("x = call f(); print x;") + " fun f() { print 4; }"
        self.assertEqual(ran(text, most=3), (("value", 0), [4, 0], [0, 2, 1]))
        self.assertEqual(ran(text, most=2), (("on",), [4], [0, 2]))

    def test_calls_that_end_behind_the_last_statement_that_may_be_begun(self):
        text = main("x = call f();") + " fun f() { x = call g(); } fun g() { return 2; }"
        self.assertEqual(ran(text, most=3), (("value", 0), [], [0, 1, 2]))

    def test_as_many_as_may_be(self):
        outcome, printed, begun = ran(main("while 1 { print 1; }"))
        self.assertEqual([outcome, len(printed), len(begun)], [("on",), 5000, 10000])

    def test_as_many_calls_within_one_another(self):
        outcome, printed, begun = ran("fun f(n) { x = call f(n + 1); }", [0])
        self.assertEqual([outcome, printed, begun], [("on",), [], [0] * 10000])
        text = "fun f(n) { if n { x = call f(n - 1); } else { raise 7; } }"
        self.assertEqual(ran(text, [4999])[0], ("fault", 7))
        self.assertEqual(len(ran(text, [4999])[2]), 10000)
        self.assertEqual(ran(text, [5000])[0], ("on",))
        self.assertEqual(ran("fun f(n) { if n { x = call f(n - 1); } return n + x; }", [3000])[0], ("value", 4501500))


class AgainstAnotherTelling(unittest.TestCase):
    """[7]"""

    def test_many_sources(self):
        for seed in range(300):
            dice = chance(seed)
            source = some_source(dice)
            arguments = [dice.randint(-2, 5) for _ in source[1][0][1]]
            inputs = [dice.randint(-2, 5) for _ in range(dice.randint(0, 6))]
            for most in [0, 1, 2, 5, 120]:
                told = told_run(source, arguments, inputs, most)
                self.assertEqual(source_run(source, arguments, inputs, most), told, (seed, most))


class Refusals(unittest.TestCase):
    """[2], [7]"""

    def refused(self, kind, value, *arguments):
        with self.assertRaises(kind) as caught:
            source_run(*arguments)
        self.assertIs(type(caught.exception), kind)
        self.assertIs(caught.exception.value, value)

    def test_sources(self):
        for value in odd_values() + [of_rows([("leave",)]), of_rows([("call", "x", "f", [])])]:
            self.refused(InvalidProgram, value, value, None, None, None)

    def test_arguments(self):
        source = of_rows([], ["a", "b"])
        for value in odd_values() + [[1], [1, 2, 3], (1, 2), [1, True], [False, 1], [1, "2"], [1, None], [[1], 2]]:
            self.refused(InvalidList, value, source, value, None, None)

    def test_inputs(self):
        for value in odd_values() + [(1, 2), [1, True], [1, "2"], [[]], 3]:
            if value != []:
                self.refused(InvalidList, value, of_rows([]), [], value, -1)

    def test_most(self):
        for value in odd_values() + [-1, 10001, 10 ** 29, "5", [5], True, False]:
            if isinstance(value, bool) or value not in (0, 1, 7):
                self.refused(InvalidNumber, value, of_rows([("raise", ("number", 1))]), [], [], value)

    def test_nothing_that_is_handed_in_is_changed(self):
        source, arguments, inputs = full_source(), [3, 4], [1, 2, 3, 0]
        before = copy.deepcopy((source, arguments, inputs))
        first = source_run(source, arguments, inputs, 200)
        self.assertEqual((source, arguments, inputs), before)
        first[1].append(1)
        first[2].clear()
        self.assertEqual(source_run(source, arguments, inputs, 200), told_run(source, arguments, inputs, 200))

    def test_by_name(self):
        source = of_rows([("return", ("name", "n"))], ["n"])
        self.assertEqual(source_run(most=1, inputs=[], arguments=[4], source=source), (("value", 4), [], [0]))
