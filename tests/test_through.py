import copy
import time
import unittest

from fewprobes.blocks import edges
from fewprobes.errors import InvalidList, InvalidProgram
from fewprobes.through import is_way, leaves, live_edges, stack_behind
from makers import all_ways, chance, some_program, some_way
from samples import full_program, odd_values, of_blocks

END = ("return", "x")


def tower():
    """main tries f, f calls g, g ends either way; the label of the block of f that calls is b."""
    return ("program", [
        ("main", [], [("a", [], ("try", "x", "f", (), "c", "y", "d")), ("c", [], END), ("d", [], ("raise", "x"))]),
        ("f", [], [("a", [], ("go", "b")), ("b", [], ("call", "x", "g", (), "c")), ("c", [], END)]),
        ("g", [], [("t", [], ("test", "x", "v", "w")), ("v", [], END), ("w", [], ("raise", "x"))]),
    ])


HIGH = [("main", "a", "call"), ("f", "a", "go"), ("f", "b", "call"), ("g", "t", "no"), ("g", "w", "raise"),
        ("f", "b", "fault"), ("main", "a", "fault"), ("main", "d", "raise")]
LOW = [("main", "a", "call"), ("f", "a", "go"), ("f", "b", "call"), ("g", "t", "yes"), ("g", "v", "return"),
       ("f", "b", "value"), ("f", "c", "return"), ("main", "a", "value"), ("main", "c", "return")]


def calls_itself():
    """main calls itself or ends."""
    return of_blocks([
        ("a", [], ("test", "x", "b", "c")), ("b", [], ("call", "x", "main", (), "c")), ("c", [], END),
    ])


class Ways(unittest.TestCase):
    """[17]"""

    def test_the_empty_list(self):
        self.assertIs(is_way(tower(), []), True)
        self.assertEqual(stack_behind(tower(), []), [("main", "a")])

    def test_cut_off_behind_each_edge(self):
        stacks = [
            [("main", "a")], [("main", "a"), ("f", "a")], [("main", "a"), ("f", "b")],
            [("main", "a"), ("f", "b"), ("g", "t")], [("main", "a"), ("f", "b"), ("g", "w")], None, None,
            [("main", "d")], [],
        ]
        for many, stack in enumerate(stacks):
            self.judge(tower(), HIGH[:many], stack)
        stacks = stacks[:4] + [[("main", "a"), ("f", "b"), ("g", "v")], None, [("main", "a"), ("f", "c")], None,
            [("main", "c")], []]
        for many, stack in enumerate(stacks):
            self.judge(tower(), LOW[:many], stack)

    def judge(self, program, way, stack):
        self.assertIs(is_way(program, way), stack is not None, way)
        if stack is not None:
            self.assertEqual(stack_behind(program, way), stack)
        else:
            with self.assertRaises(InvalidList) as caught:
                stack_behind(program, way)
            self.assertIs(caught.exception.value, way)

    def test_an_edge_left_out_doubled_or_changed(self):
        program = tower()
        for way in [HIGH, LOW]:
            for at in range(len(way)):
                if at + 1 < len(way):
                    self.judge(program, way[:at] + way[at + 1:], None)
                self.judge(program, way[:at + 1] + way[at:], None)
                for edge in edges(program):
                    if edge != way[at] and edge[:2] != ("g", "t"):
                        self.judge(program, way[:at] + [edge] + way[at + 1:], None)

    def test_nothing_stands_behind_a_whole_way(self):
        program = tower()
        for way in [HIGH, LOW]:
            for edge in edges(program):
                self.judge(program, way + [edge], None)
        self.judge(of_blocks([("a", [], END)]), [("main", "a", "return")], [])
        self.judge(of_blocks([("a", [], END)]), [("main", "a", "return")] * 2, None)

    def test_a_test_may_take_either_way_each_time(self):
        program = of_blocks([("a", [("set", "x", 1)], ("test", "x", "a", "b")), ("b", [], END)])
        for way in [["no"], ["yes", "yes", "no"], ["yes", "no"]]:
            self.judge(program, [("main", "a", word) for word in way], [("main", "b")])

    def test_the_way_that_a_function_ended_is_the_one_that_is_gone(self):
        program = tower()
        self.judge(program, LOW[:5] + [("f", "b", "fault")], None)
        self.judge(program, HIGH[:5] + [("f", "b", "value")], None)
        self.judge(program, [("main", "a", "value")], None)
        self.judge(program, [("main", "a", "fault")], None)
        self.judge(program, HIGH[:4] + [("f", "b", "fault")], None)

    def test_a_fault_ends_a_main_function_that_calls(self):
        program = ("program", [("m", [], [("a", [], ("call", "x", "f", (), "a"))]),
            ("f", [], [("a", [], ("raise", "x"))])])
        self.judge(program, [("m", "a", "call"), ("f", "a", "raise"), ("m", "a", "fault")], [])
        self.judge(program, [("m", "a", "call"), ("f", "a", "raise")], None)

    def test_functions_that_call_themselves(self):
        program = calls_itself()
        down, up = [("main", "a", "yes"), ("main", "b", "call")], [("main", "b", "value"), ("main", "c", "return")]
        self.judge(program, down * 3, [("main", "b")] * 3 + [("main", "a")])
        leaf = [("main", "a", "no"), ("main", "c", "return")]
        self.judge(program, down * 3 + leaf + up * 2 + up[:1], [("main", "c")])
        self.judge(program, down * 3 + leaf + up * 3, [])
        self.judge(program, down * 3 + leaf + up * 4, None)
        self.judge(program, down * 3 + leaf + up[1:], None)

    def test_great_ways_within_seconds(self):
        program = calls_itself()
        begin = time.perf_counter()
        way = [("main", "a", "yes"), ("main", "b", "call")] * 10000
        self.judge(program, way, [("main", "b")] * 10000 + [("main", "a")])
        way = way[:10000] + [("main", "a", "no"), ("main", "c", "return")] + [("main", "b", "value"),
            ("main", "c", "return")] * 4999
        self.judge(program, way, None)
        self.judge(program, way + [("main", "b", "value")], [("main", "c")])
        loop = of_blocks([("a", [], ("go", "a"))])
        self.judge(loop, [("main", "a", "go")] * 20000, [("main", "a")])
        self.judge(loop, [("main", "a", "go")] * 20000 + [("main", "a", "yes")], None)
        self.assertLess(time.perf_counter() - begin, 10)

    def test_all_ways_of_many_programs(self):
        for seed in range(60):
            program = some_program(chance(seed))
            ways = {tuple(way): stack for way, stack in all_ways(program, 5, 300)}
            for way, stack in ways.items():
                self.judge(program, list(way), stack)
                for edge in edges(program):
                    if len(way) < 3:
                        self.assertIs(is_way(program, [*way, edge]), (*way, edge) in ways)

    def test_long_ways_of_many_programs(self):
        for seed in range(100):
            dice = chance(seed)
            program = some_program(dice)
            way, stack = some_way(program, dice, 60)
            self.judge(program, way, stack)

    def test_the_greatest_programs(self):
        labels = [f"w{k}" for k in range(160)]
        blocks = [(label, [], ("go", after)) for label, after in zip(labels, labels[1:])] + [("w159", [], END)]
        program = ("program", [(f"f{k}", [], blocks) for k in range(8)])
        way = [("f0", label, "go") for label in labels[:159]]
        self.judge(program, way, [("f0", "w159")])
        self.judge(program, way + [("f0", "w159", "return")], [])

    def test_what_is_no_list_of_edges(self):
        program = tower()
        for value in odd_values() + [
            tuple(LOW), [list(LOW[0])], [("main", "a", "go")], [("main", "a")], [("main", "a", "call", "x")],
            [("main", "a", ["call"])], [("main", "a", {})], LOW[:2] + [None], LOW[:2] + [1], {LOW[0]: True}, [LOW],
            LOW[0],
        ]:
            if value != []:
                self.judge(program, value, None)


class WhatEnds(unittest.TestCase):
    """[18]"""

    def test_by_value_by_fault_by_both_by_none(self):
        program = ("program", [
            ("v", [], [("a", [], END)]), ("w", [], [("a", [], ("raise", "x"))]),
            ("b", [], [("a", [], ("test", "x", "c", "d")), ("c", [], END), ("d", [], ("raise", "x"))]),
            ("n", [], [("a", [], ("go", "a"))]), ("o", [], [("a", [], ("go", "a")), ("b", [], END)]),
        ])
        self.assertEqual(leaves(program), [
            ("v", True, False), ("w", False, True), ("b", True, True), ("n", False, False), ("o", False, False),
        ])

    def test_calls(self):
        def calling(word, other):
            end = ("call", "x", other, (), "b") if word == "call" else ("try", "x", other, (), "b", "y", "c")
            return [("a", [], end), ("b", [], END), ("c", [], ("go", "c"))]
        ends = {"v": [("a", [], END)], "w": [("a", [], ("raise", "x"))], "n": [("a", [], ("go", "a"))]}
        for word, other, flags in [
            ("call", "v", (True, False)), ("call", "w", (False, True)), ("call", "n", (False, False)),
            ("try", "v", (True, False)), ("try", "w", (False, False)), ("try", "n", (False, False)),
            ("call", "main", (False, False)), ("try", "main", (False, False)),
        ]:
            program = ("program", [("main", [], calling(word, other))] + ([(other, [],
                ends[other])] if other in ends else []))
            self.assertEqual(leaves(program)[0], ("main", *flags), (word, other))

    def test_a_try_that_raises_again(self):
        program = tower()
        self.assertEqual(leaves(program), [("main", True, True), ("f", True, True), ("g", True, True)])

    def test_of_themselves_and_around_rings(self):
        self.assertEqual(leaves(calls_itself()), [("main", True, False)])
        ring = ("program", [
            ("f", [], [("a", [], ("call", "x", "g", (), "b")), ("b", [], END)]),
            ("g", [], [("a", [], ("call", "x", "h", (), "b")), ("b", [], END)]),
            ("h", [], [("a", [], ("call", "x", "f", (), "b")), ("b", [], END)]),
        ])
        self.assertEqual(leaves(ring), [("f", False, False), ("g", False, False), ("h", False, False)])
        self.assertEqual(live_edges(ring), [])
        open_ring = copy.deepcopy(ring)
        open_ring[1][2][2][0] = ("a", [], ("test", "x", "b", "c"))
        open_ring[1][2][2].append(("c", [], ("call", "x", "f", (), "d")))
        open_ring[1][2][2].append(("d", [], ("raise", "x")))
        self.assertEqual(leaves(open_ring), [("f", True, True), ("g", True, True), ("h", True, True)])
        self.assertEqual(live_edges(open_ring), edges(open_ring))

    def test_functions_that_are_never_called(self):
        program = ("program", [("main", [], [("a", [], ("go", "a"))]), ("f", [], [("a", [], END)])])
        self.assertEqual(leaves(program), [("main", False, False), ("f", True, False)])
        self.assertEqual(live_edges(program), [])

    def test_live_edges(self):
        self.assertEqual(live_edges(tower()), edges(tower()))
        program = ("program", [
            ("main", [], [
                ("a", [], ("test", "x", "b", "c")), ("b", [], ("go", "b")),
                ("c", [], ("try", "x", "f", (), "d", "y", "e")),
                ("d", [], END), ("e", [], END), ("u", [], ("go", "d")), ("v", [], ("call", "x", "n", (), "d")),
            ]),
            ("f", [], [("a", [], ("test", "x", "b", "c")), ("b", [], END), ("c", [], ("call", "x", "n", (), "b"))]),
            ("n", [], [("a", [], ("go", "a"))]),
        ])
        self.assertEqual(live_edges(program), [
            ("main", "a", "no"), ("main", "c", "call"), ("main", "c", "value"), ("main", "d", "return"),
            ("f", "a", "yes"),
            ("f", "b", "return"),
        ])

    def test_a_function_that_must_fault_where_that_leads_to_no_end(self):
        program = ("program", [
            ("main", [], [("a", [], ("try", "x", "f", (), "b", "y", "c")), ("b", [], END), ("c", [], ("go", "c"))]),
            ("f", [], [("a", [], ("test", "x", "b", "c")), ("b", [], END), ("c", [], ("raise", "x"))]),
        ])
        self.assertEqual(leaves(program), [("main", True, False), ("f", True, True)])
        self.assertEqual([edge for edge in edges(program) if edge not in live_edges(program)], [
            ("main", "a", "fault"), ("main", "c", "go"), ("f", "a", "no"), ("f", "c", "raise"),
        ])

    def test_against_ways_of_many_programs(self):
        for seed in range(150):
            dice = chance(seed)
            program = some_program(dice)
            gone = {edge for way, stack in all_ways(program, 12, 1500) if not stack for edge in way}
            for _ in range(50):
                way, stack = some_way(program, dice, 30)
                gone.update(way if not stack else [])
            self.assertEqual(live_edges(program), [edge for edge in edges(program) if edge in gone], seed)
            name, by_value, by_fault = leaves(program)[0]
            self.assertEqual(name, program[1][0][0])
            self.assertEqual(by_value, any(edge[0] == name and edge[2] == "return" for edge in gone))
            self.assertEqual(by_value or by_fault, bool(gone))

    def test_flags_and_lists(self):
        for name, by_value, by_fault in leaves(tower()):
            self.assertIs(by_value, True)
            self.assertIs(by_fault, True)
        first = live_edges(tower())
        first.clear()
        self.assertEqual(live_edges(tower()), edges(tower()))


class Refusals(unittest.TestCase):
    """[2], [17], [18]"""

    def test_what_is_no_program(self):
        for value in odd_values() + [of_blocks([]), of_blocks([("a", [], ("go", "b"))])]:
            for function, more in [(is_way, ([],)), (stack_behind, (None,)), (leaves, ()), (live_edges, ())]:
                with self.assertRaises(InvalidProgram) as caught:
                    function(value, *more)
                self.assertIs(caught.exception.value, value)

    def test_nothing_is_changed(self):
        program, way = tower(), list(HIGH)
        before = copy.deepcopy(program)
        is_way(value=way, program=program)
        stack_behind(way=way, program=program).clear()
        self.assertEqual([leaves(program=program), live_edges(program=program)], [leaves(before), live_edges(before)])
        self.assertEqual([program, way], [before, HIGH])
        self.assertEqual(len(leaves(full_program())), 2)
