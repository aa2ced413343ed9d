import copy
import unittest

from fewprobes.blocks import edges
from fewprobes.errors import InvalidList, InvalidProfile, InvalidProgram, Unlike
from fewprobes.profiles import begun, is_profile, merged, passes, recorded, without
from fewprobes.runs import trace
from makers import chance, some_program, some_way, sums_of
from samples import at, each_place, full_program, odd_values, of_blocks, swapped, with_put

END = ("return", "x")


def looped():
    """main calls f in a loop; f may call itself, end by a value or by a fault."""
    return ("program", [
        ("main", [], [("a", [], ("test", "x", "b", "c")), ("b", [], ("try", "x", "f", (), "a", "x", "a")),
            ("c", [], END)]),
        ("f", [], [("a", [], ("test", "x", "b", "c")), ("b", [], ("call", "x", "f", (), "d")),
            ("c", [], ("raise", "x")), ("d", [], END)]),
    ])


DOWN = [("main", "a", "yes"), ("main", "b", "call"), ("f", "a", "yes"), ("f", "b", "call"), ("f", "a", "yes"),
    ("f", "b", "call")]
UP = [("f", "a", "no"), ("f", "c", "raise"), ("f", "b", "fault"), ("f", "b", "fault"), ("main", "b", "fault"),
    ("main", "a", "no"),
      ("main", "c", "return")]


def good():
    return ("profile", 2, [1, 2, 3, 4, 5, 6, 7, 8, 9, 10, 11, 12], [0, 1, 2, 3, 4, 5, 6], [6, 5, 4, 3, 2, 1, 0])


class Judging(unittest.TestCase):
    """[22]"""

    def judge(self, value, right):
        program = full_program()
        self.assertIs(is_profile(program, value), right)
        if not right:
            for function, arguments in [
                (passes, (program, value)), (begun, (program, value)), (merged, (program, [good(), value, None])),
                (without, (program, value, None)), (without, (program, good(), value)),
            ]:
                with self.assertRaises(InvalidProfile) as caught:
                    function(*arguments)
                self.assertIs(caught.exception.value, value)

    def test_right_ones(self):
        self.judge(good(), True)
        self.judge(("profile", 0, [0] * 12, [0] * 7, [0] * 7), True)
        self.judge(("profile", 10 ** 29, [10 ** 29] * 12, [10 ** 29] * 7, [10 ** 29] * 7), True)

    def test_each_part_spoilt(self):
        for path in each_place(good()):
            for thing in [None, True, False, -1, "x", "profile ", [], (), [0], 10 ** 29, {}, ("profile",)]:
                value = with_put(good(), path, thing)
                count = isinstance(thing, int) and not isinstance(thing, bool) and thing >= 0
                self.judge(value, count and (path == (1,) or len(path) == 2))
            if path in [(2,), (3,), (4,)]:
                self.judge(with_put(good(), path, swapped(at(good(), path))), False)

    def test_lists_too_short_and_too_long(self):
        for k in [2, 3, 4]:
            self.judge(with_put(good(), (k,), good()[k][1:]), False)
            self.judge(with_put(good(), (k,), good()[k] + [0]), False)
        self.judge(good()[:4], False)
        self.judge(good() + (0,), False)
        self.judge(list(good()), False)

    def test_odd_values(self):
        for value in odd_values():
            self.judge(value, False)

    def test_be_there_such_runs_or_not(self):
        self.assertIs(is_profile(looped(), ("profile", 0, [5] * 13, [1] * 7, [0] * 7)), True)
        self.assertEqual(len(edges(looped())), 13)


class Recorded(unittest.TestCase):
    """[23]"""

    def test_a_whole_way(self):
        self.assertEqual(recorded(looped(), DOWN + UP), (
            "profile", 1, [1, 1, 1, 0, 1, 1, 2, 1, 2, 0, 2, 1, 0], [0] * 7, [0] * 7,
        ))

    def test_cut_ways(self):
        self.assertEqual(recorded(looped(), DOWN)[3:], ([0, 1, 0, 0, 2, 0, 0], [0, 0, 0, 1, 0, 0, 0]))
        self.assertEqual(recorded(looped(), DOWN[:1])[1:], (1, [1] + [0] * 12, [0] * 7, [0, 1, 0, 0, 0, 0, 0]))

    def test_the_empty_way(self):
        self.assertEqual(recorded(looped(), []), ("profile", 1, [0] * 13, [0] * 7, [1, 0, 0, 0, 0, 0, 0]))

    def test_deep_calls(self):
        program = of_blocks([("a", [], ("call", "x", "main", (), "a"))])
        self.assertEqual(recorded(program, trace(program, [], [], 5000)), ("profile", 1, [5000, 0, 0], [5000], [1]))

    def test_many_ways(self):
        for seed in range(100):
            dice = chance(seed)
            program = some_program(dice)
            way, stack = some_way(program, dice, 40)
            numbers, waiting, standing = sums_of(program, edges(program), [(way, stack)])
            self.assertEqual(recorded(program, way), ("profile", 1, numbers, waiting, standing))

    def test_refusals(self):
        for value in odd_values() + [tuple(DOWN), DOWN[1:], DOWN + UP + DOWN, (DOWN + UP)[:8], DOWN + [None]]:
            if value != []:
                with self.assertRaises(InvalidList) as caught:
                    recorded(looped(), value)
                self.assertIs(caught.exception.value, value)


class Merged(unittest.TestCase):
    """[24]"""

    def test_none_one_and_several_in_any_order(self):
        program = looped()
        held = [recorded(program, way) for way in [DOWN, DOWN + UP, [], DOWN[:3]]]
        self.assertEqual(merged(program, []), ("profile", 0, [0] * 13, [0] * 7, [0] * 7))
        self.assertEqual(merged(program, held[:1]), held[0])
        told = ("profile", 4, *[[sum(column) for column in zip(*[profile[k] for profile in held])] for k in [2, 3, 4]])
        self.assertEqual(merged(program, held), told)
        self.assertEqual(merged(program, held[::-1]), told)
        self.assertEqual(merged(program, [merged(program, held[:2]), held[2], merged(program, []), held[3]]), told)
        self.assertEqual(merged(program, [held[0], held[0]])[1:3], (2, [2 * number for number in held[0][2]]))

    def test_no_list_is_handed_on(self):
        program, profile = looped(), recorded(looped(), DOWN)
        one = merged(program, [profile])
        for part in one[2:]:
            part.append(5)
        self.assertEqual(profile, recorded(program, DOWN))

    def test_refusals(self):
        program = full_program()
        for value in odd_values() + [(good(),), good()]:
            if not isinstance(value, list):
                with self.assertRaises(InvalidList) as caught:
                    merged(program, value)
                self.assertIs(caught.exception.value, value)
        first, second = good()[:4], ("profile", -1, *good()[2:])
        with self.assertRaises(InvalidProfile) as caught:
            merged(program, [good(), first, second])
        self.assertIs(caught.exception.value, first)


class Without(unittest.TestCase):
    """[24]"""

    def test_the_rest(self):
        program = looped()
        both = merged(program, [recorded(program, DOWN), recorded(program, DOWN + UP)])
        self.assertEqual(without(program, both, recorded(program, DOWN)), recorded(program, DOWN + UP))
        self.assertEqual(without(program, both, recorded(program, DOWN + UP)), recorded(program, DOWN))
        self.assertEqual(without(program, both, both), merged(program, []))
        self.assertEqual(without(program, both, merged(program, [])), both)

    def test_a_number_less_than_0(self):
        program = full_program()
        for path in each_place(good()):
            if path == (1,) or len(path) == 2:
                other = with_put(good(), path, at(good(), path) + 1)
                with self.assertRaises(Unlike) as caught:
                    without(program, good(), other)
                self.assertIs(caught.exception.value, other)
                left = without(program, other, good())
                self.assertEqual(sum([left[1]] + left[2] + left[3] + left[4]), 1)

    def test_errors_in_their_order(self):
        program = full_program()
        for value, other, wrong in [(None, 1, None), (good(), 1, 1), (good()[:4], good()[:3], good()[:4])]:
            with self.assertRaises(InvalidProfile) as caught:
                without(program, value, other)
            self.assertEqual(caught.exception.value, wrong)


class PassesAndBegun(unittest.TestCase):
    """[25]"""

    def test_of_whole_and_cut_ways(self):
        program = looped()
        self.assertEqual(passes(program, recorded(program, DOWN)), [1, 1, 0, 2, 2, 0, 0])
        self.assertEqual(begun(program, recorded(program, DOWN)), [("main", 1), ("f", 3)])
        self.assertEqual(passes(program, recorded(program, DOWN + UP)), [2, 1, 1, 3, 2, 1, 0])
        self.assertEqual(begun(program, recorded(program, DOWN + UP)), [("main", 1), ("f", 3)])
        both = merged(program, [recorded(program, DOWN), recorded(program, DOWN + UP)])
        self.assertEqual(passes(program, both), [3, 2, 1, 5, 4, 1, 0])
        self.assertEqual(begun(program, both), [("main", 2), ("f", 6)])

    def test_a_main_function_that_calls_itself(self):
        program = of_blocks([("a", [], ("test", "x", "b", "c")), ("b", [], ("call", "x", "main", (), "c")),
            ("c", [], END)])
        way = [("main", "a", "yes"), ("main", "b", "call")] * 3
        self.assertEqual(begun(program, recorded(program, way)), [("main", 4)])
        self.assertEqual(begun(program, merged(program, [recorded(program, way)] * 2)), [("main", 8)])
        self.assertEqual(passes(program, recorded(program, way)), [3, 3, 0])

    def test_functions_that_are_never_called(self):
        program = ("program", [("f", [], [("a", [], END)]), ("g", [], [("a", [], END)])])
        profile = recorded(program, [("f", "a", "return")])
        self.assertEqual([passes(program, profile), begun(program, profile)], [[1, 0], [("f", 1), ("g", 0)]])

    def test_each_way_but_value_and_fault_counts(self):
        self.assertEqual(passes(full_program(), good()), [3, 3, 6, 9, 10, 11, 12])
        self.assertEqual(begun(full_program(), good()), [("main", 8), ("f", 3)])


class Refusals(unittest.TestCase):
    """[2], [22] to [25]"""

    def test_what_is_no_program_is_refused_first(self):
        for value in odd_values() + [of_blocks([])]:
            for function, more in [(is_profile, (None,)), (recorded, (None,)), (merged, (None,)),
                (without, (None, None)),
                                   (passes, (None,)), (begun, (None,))]:
                with self.assertRaises(InvalidProgram) as caught:
                    function(value, *more)
                self.assertIs(caught.exception.value, value)

    def test_nothing_is_changed_and_names_of_arguments(self):
        program, profile, other = looped(), recorded(looped(), DOWN + UP), recorded(looped(), DOWN)
        before = copy.deepcopy((program, profile, other))
        passes(profile=profile, program=program).clear()
        begun(profile=profile, program=program).clear()
        merged(profiles=[profile, other], program=program)[2].clear()
        is_profile(value=profile, program=program)
        both = merged(program, [profile, other])
        without(other=other, profile=both, program=program)[2].clear()
        recorded(way=DOWN, program=program)[2].clear()
        self.assertEqual((program, profile, other), before)
        self.assertEqual(both, merged(program, [profile, other]))
