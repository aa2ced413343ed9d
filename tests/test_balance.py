import copy
import time
import unittest

from fewprobes.balance import drawn_up, edge_counts, full_tally, is_tally, misfit, moves, tally, way_places
from fewprobes.blocks import edges
from fewprobes.errors import InvalidFlag, InvalidList, InvalidProfile, InvalidProgram
from fewprobes.runs import trace
from fewprobes.through import is_way, live_edges, stack_behind
from makers import all_ways, chance, some_program, some_way, sums_of
from samples import odd_values, of_blocks

END = ("return", "x")
TURN = ("f", ["n"], [("a", [], ("test", "n", "b", "c")), ("b", [], ("return", "n")), ("c", [], ("raise", "n"))])


def tried():
    return ("program", [
        ("main", [], [("d", [("read", "x")], ("try", "y", "f", ("x",), "e", "z", "d")), ("e", [], ("return", "y"))]),
        TURN,
    ])


def called():
    return ("program", [("main", [], [("d", [("read", "x")], ("call", "y", "f", ("x",), "e")),
        ("e", [], ("return", "y"))]), TURN])


def itself():
    return of_blocks([("a", [], ("test", "x", "b", "c")), ("b", [], ("call", "x", "main", (), "c")), ("c", [], END)])


def endless():
    return ("program", [("main", [], [("a", [], ("call", "x", "f", (), "b")), ("b", [], END)]),
        ("f", [], [("a", [], ("go", "a"))])])


def told_tally(program, ways, cuts):
    """The tally of ways by their stacks, told another way: each way is read from its end."""
    found = {}
    for way, stack in ways:
        leavings = ["cut"] * len(stack)
        for block in stack[:-1]:
            found[(*block, "waits", "cut")] = found.get((*block, "waits", "cut"), 0) + 1
        for block in stack[-1:]:
            found[(*block, "stands", "cut")] = found.get((*block, "stands", "cut"), 0) + 1
        for name, label, word in way[::-1]:
            if word == "call":
                leavings.pop()
                continue
            ends = [block[2][0] for function in program[1] if function[0] == name for block in function[2] if block[0] == label]
            if word == "return":
                leavings.append("value")
            elif word == "raise" or (word == "fault" and ends[0] == "call"):
                leavings.append("fault")
            move = (name, label, word, leavings[-1])
            found[move] = found.get(move, 0) + 1
    counts = [found.pop(move, 0) for move, led in moves(program, cuts)]
    assert not found
    return counts


def counting(program, dice, cuts):
    """Some ways that count, with their stacks."""
    held = [some_way(program, dice, dice.randint(0, 40)) for _ in range(30)]
    held += all_ways(program, 6, 200)
    return [(way, stack) for way, stack in held if cuts or not stack]


class Moves(unittest.TestCase):
    """[26]"""

    def test_of_whole_ways(self):
        self.assertEqual(moves(tried(), False), [
            (("main", "d", "value", "value"), [("f", "a", "value"), ("main", "e", "value")]),
            (("main", "d", "fault", "value"), [("f", "a", "fault"), ("main", "d", "value")]),
            (("main", "e", "return", "value"), []),
            (("f", "a", "yes", "value"), [("f", "b", "value")]), (("f", "a", "no", "fault"), [("f", "c", "fault")]),
            (("f", "b", "return", "value"), []), (("f", "c", "raise", "fault"), []),
        ])
        self.assertEqual(way_places(tried(), False), [
            ("main", "d", "value"), ("main", "e", "value"), ("f", "a", "value"), ("f", "a", "fault"),
            ("f", "b", "value"), ("f", "c", "fault"),
        ])

    def test_of_all_ways(self):
        self.assertEqual([move for move, led in moves(tried(), True)], [
            ("main", "d", "value", "value"), ("main", "d", "fault", "value"), ("main", "d", "value", "cut"),
            ("main", "d", "fault", "cut"),
            ("main", "d", "waits", "cut"), ("main", "d", "stands", "cut"), ("main", "e", "return", "value"),
            ("main", "e", "stands", "cut"),
            ("f", "a", "yes", "value"), ("f", "a", "no", "fault"), ("f", "a", "yes", "cut"), ("f", "a", "no", "cut"),
            ("f", "a", "stands", "cut"),
            ("f", "b", "return", "value"), ("f", "b", "stands", "cut"), ("f", "c", "raise", "fault"),
            ("f", "c", "stands", "cut"),
        ])
        told = dict(moves(tried(), True))
        self.assertEqual(told[("main", "d", "fault", "cut")], [("f", "a", "fault"), ("main", "d", "cut")])
        self.assertEqual(told[("main", "d", "waits", "cut")], [("f", "a", "cut")])
        self.assertEqual(told[("main", "d", "stands", "cut")], [])
        self.assertEqual(told[("f", "a", "no", "cut")], [("f", "c", "cut")])

    def test_the_fault_of_a_call_leaves_by_a_fault_alone(self):
        self.assertEqual([pair for pair in moves(called(), True) if pair[0][2] == "fault"],
            [(("main", "d", "fault", "fault"), [("f", "a", "fault")])])
        self.assertEqual(way_places(called(), False)[:3],
            [("main", "d", "value"), ("main", "d", "fault"), ("main", "e", "value")])

    def test_the_order_of_leavings_and_ways(self):
        program = ("program", [
            ("main", [], [("a", [], ("try", "x", "f", (), "b", "y", "b")), ("b", [], ("test", "x", "c", "d")),
                ("c", [], END), ("d", [], ("raise", "x"))]),
            ("f", [], [("a", [], ("test", "x", "b", "c")), ("b", [], END), ("c", [], ("raise", "x"))]),
        ])
        self.assertEqual([move[2:] for move, led in moves(program, True) if move[:2] == ("main", "a")], [
            ("value", "value"), ("fault", "value"), ("value", "fault"), ("fault", "fault"), ("value", "cut"),
            ("fault", "cut"),
            ("waits", "cut"), ("stands", "cut"),
        ])
        self.assertEqual([place[2] for place in way_places(program, True)[:3]], ["value", "fault", "cut"])

    def test_a_move_that_leads_to_a_place_twice(self):
        program = of_blocks([("a", [], ("test", "x", "b", "c")), ("b", [], ("call", "x", "main", (), "a")),
            ("c", [], END)])
        self.assertEqual(dict(moves(program, False))[("main", "b", "value", "value")], [("main", "a", "value")] * 2)

    def test_blocks_that_no_way_comes_to_and_functions_that_never_end(self):
        program = ("program", [
            ("main", [], [
                ("a", [], ("test", "x", "b", "c")), ("b", [], ("call", "x", "f", (), "c")), ("c", [], END),
                ("u", [], ("go", "c")),
            ]),
            ("f", [], [("a", [], ("go", "b")), ("b", [], ("go", "a")), ("c", [], END)]), ("g", [], [("a", [], END)]),
        ])
        self.assertEqual([move for move, led in moves(program, False)],
            [("main", "a", "no", "value"), ("main", "c", "return", "value")])
        self.assertEqual([move for move, led in moves(program, True)], [
            ("main", "a", "no", "value"), ("main", "a", "yes", "cut"), ("main", "a", "no", "cut"),
            ("main", "a", "stands", "cut"),
            ("main", "b", "waits", "cut"), ("main", "b", "stands", "cut"), ("main", "c", "return", "value"),
            ("main", "c", "stands", "cut"),
            ("f", "a", "go", "cut"), ("f", "a", "stands", "cut"), ("f", "b", "go", "cut"), ("f", "b", "stands", "cut"),
        ])
        self.assertEqual(way_places(program, True)[:3],
            [("main", "a", "value"), ("main", "a", "cut"), ("main", "b", "cut")])

    def test_no_way_at_all(self):
        self.assertEqual([moves(endless(), False), way_places(endless(), False)], [[], []])
        self.assertEqual(len(moves(endless(), True)), 4)

    def test_against_ways_of_many_programs(self):
        for seed in range(120):
            dice = chance(seed)
            program = some_program(dice)
            for cuts in [False, True]:
                made = moves(program, cuts)
                held = counting(program, dice, cuts) + [pair for pair in all_ways(program, 13,
                    1500) if cuts or not pair[1]]
                self.assertTrue(all(told_tally(program, held, cuts)), seed)
                order = {word: k for k, word in enumerate(["value", "fault", "cut"])}
                labels = [(function[0], block[0]) for function in program[1] for block in function[2]]
                places = [(labels.index(move[:2]), order[move[3]]) for move, led in made]
                self.assertEqual(places, sorted(places))
                told = [(labels.index(place[:2]), order[place[2]]) for place in way_places(program, cuts)]
                self.assertEqual(told, sorted(set(places)))
                for move, led in made:
                    self.assertIs(type(led), list)
                    self.assertTrue(set(led) <= set(way_places(program, cuts)))
                if not cuts:
                    gone = {move[:3] for move, led in made} | {(*move[:2], "call") for move,
                    led in made if move[2] in ("value", "fault")}
                    self.assertEqual(live_edges(program), [edge for edge in edges(program) if edge in gone])


class Tallies(unittest.TestCase):
    """[27]"""

    def test_of_no_way(self):
        self.assertEqual(tally(tried(), [], False), [0] * 7)
        self.assertEqual(tally(tried(), [], True), [0] * 17)
        self.assertEqual(tally(endless(), [], False), [])

    def test_of_ways_that_are_cut_at_once(self):
        self.assertEqual(tally(tried(), [[], []], True), [0, 0, 0, 0, 0, 2] + [0] * 11)

    def test_of_whole_and_cut_ways(self):
        program = tried()
        way = trace(program, [], [0, 0, 1], 99)
        self.assertEqual(tally(program, [way], False), [1, 2, 1, 1, 2, 1, 2])
        self.assertEqual(tally(program, [way], True), [1, 2, 0, 0, 0, 0, 1, 0, 1, 2, 0, 0, 0, 1, 0, 2, 0])
        self.assertEqual(tally(program, [way[:4], way[:2]], True), [0, 0, 0, 1, 1, 1, 0, 0, 0, 1, 0, 1, 0, 0, 0, 1, 1])

    def test_of_many_programs(self):
        for seed in range(120):
            dice = chance(seed)
            program = some_program(dice)
            for cuts in [False, True]:
                held = counting(program, dice, cuts)
                held = [dice.choice(held) for _ in range(dice.randint(0, 6))] if held else []
                counts = tally(program, [way for way, stack in held], cuts)
                self.assertEqual(counts, told_tally(program, held, cuts))
                self.assertIs(is_tally(program, counts, cuts), True)
                self.assertIsNone(misfit(program, counts, cuts))
                self.assertEqual(edge_counts(program, counts, cuts), sums_of(program, edges(program), held)[0])

    def test_thousands_of_calls_within_one_another(self):
        program, many = itself(), 3000
        begin = time.perf_counter()
        down = [("main", "a", "yes"), ("main", "b", "call")] * many
        whole = down + [("main", "a", "no"), ("main", "c", "return")] + [("main", "b", "value"),
            ("main", "c", "return")] * many
        self.assertEqual(tally(program, [whole], False), [many, 1, many, many + 1])
        told = dict(zip([move for move, led in moves(program, True)], tally(program, [down, whole], True)))
        self.assertEqual({move[1:]: n for move, n in told.items() if n}, {
            ("a", "yes", "value"): many, ("a", "no", "value"): 1, ("b", "value", "value"): many,
            ("c", "return", "value"): many + 1,
            ("a", "yes", "cut"): many, ("b", "waits", "cut"): many, ("a", "stands", "cut"): 1,
        })
        self.assertLess(time.perf_counter() - begin, 10)

    def test_edge_counts(self):
        self.assertEqual(edge_counts(tried(), [2, 3, 2, 2, 3, 2, 3], False), [5, 2, 3, 2, 2, 3, 2, 3])
        self.assertEqual(edge_counts(tried(), [1, 0, 0, 0, 1, 1] + [0] * 11, True), [2, 1, 0, 0, 0, 0, 0, 0])
        self.assertEqual(edge_counts(tried(), [10 ** 60, 0, 0, 0, 0, 0, 5], False),
            [10 ** 60, 10 ** 60, 0, 0, 0, 0, 0, 5])
        self.assertEqual(edge_counts(endless(), [], False), [0] * 5)

    def test_refusals(self):
        program = tried()
        way = trace(program, [], [0, 0, 1], 99)
        for value in odd_values() + [(way,), [tuple(way)], [way, way[1:]], way, [way, None]]:
            if value not in ([], [[]]):
                for cuts in [False, True]:
                    with self.assertRaises(InvalidList) as caught:
                        tally(program, value, cuts)
                    self.assertIs(caught.exception.value, value)
        for value in [[way, way[:3]], [[]], [way[:4]]]:
            with self.assertRaises(InvalidList) as caught:
                tally(program, value, False)
            self.assertIs(caught.exception.value, value)
        for value in odd_values() + [[0] * 6, [0] * 8, (0,) * 7, [0] * 6 + [-1], [0] * 6 + [True], [0] * 6 + [None],
            [0] * 17]:
            for function in [edge_counts, misfit]:
                with self.assertRaises(InvalidList) as caught:
                    function(program, value, False)
                self.assertIs(caught.exception.value, value)
            self.assertIs(is_tally(program, value, False), False)


class Misfits(unittest.TestCase):
    """[28]"""

    def test_none(self):
        for counts in [[2, 3, 2, 2, 3, 2, 3], [0] * 7, [1, 0, 1, 1, 0, 1, 0]]:
            self.assertIsNone(misfit(tried(), counts, False))
            self.assertIs(is_tally(tried(), counts, False), True)

    def check(self, counts, wrong, program=None, cuts=False):
        program = program or tried()
        self.assertEqual(misfit(program, counts, cuts), wrong)
        self.assertIs(is_tally(program, counts, cuts), wrong is None)

    def test_balance(self):
        self.check([2, 3, 2, 2, 3, 2, 2], (("f", "c", "fault"), "balance"))
        self.check([2, 3, 2, 2, 3, 1, 2], (("f", "b", "value"), "balance"))
        self.check([2, 3, 1, 2, 3, 2, 3], (("main", "e", "value"), "balance"))
        self.check([0, 0, 1, 0, 0, 0, 0], (("main", "e", "value"), "balance"))
        self.check([2, 3, 2, 3, 3, 3, 3], (("f", "a", "value"), "balance"))
        self.check([0, 0, 0, 0, 0, 0, 1], (("f", "c", "fault"), "balance"))

    def test_a_main_place_may_be_left_more_often_not_less(self):
        self.check([5, 0, 5, 5, 0, 5, 0], None)
        program = itself()
        self.check([0, 1, 0, 1], None, program)
        self.check([2, 1, 2, 3], None, program)
        self.check([2, 1, 3, 4], (("main", "b", "value"), "balance"), program)
        self.check([0, 0, 1, 0], (("main", "a", "value"), "balance"), program)

    def test_apart(self):
        self.check([0, 3, 0, 0, 3, 0, 3], (("main", "d", "value"), "apart"))
        self.check([0, 1, 0, 0, 1, 0, 1], (("main", "d", "value"), "apart"))
        program = of_blocks([("a", [], ("test", "x", "b", "c")), ("b", [], ("go", "b")),
            ("c", [], ("test", "x", "c", "d")), ("d", [], END)])
        self.assertEqual([move[1:3] for move, led in moves(program, False)],
            [("a", "no"), ("c", "yes"), ("c", "no"), ("d", "return")])
        self.check([0, 4, 0, 0], (("main", "c", "value"), "apart"), program)
        self.check([1, 4, 1, 1], None, program)

    def test_a_place_that_is_come_to_through_moves_that_are_not_made(self):
        program = of_blocks([
            ("a", [], ("test", "x", "b", "d")), ("b", [], ("test", "x", "b", "c")), ("c", [], ("go", "d")),
            ("d", [], END),
        ])
        self.assertEqual([move[1:3] for move, led in moves(program, False)],
                         [("a", "yes"), ("a", "no"), ("b", "yes"), ("b", "no"), ("c", "go"), ("d", "return")])
        self.check([0, 1, 2, 0, 0, 1], (("main", "b", "value"), "apart"), program)
        self.check([1, 0, 2, 1, 1, 1], None, program)

    def test_twice(self):
        program = of_blocks([("a", [], ("test", "x", "b", "c")), ("b", [], ("call", "x", "main", (), "a")),
            ("c", [], END)])
        self.assertEqual([move[1:3] for move, led in moves(program, False)],
            [("a", "yes"), ("a", "no"), ("b", "value"), ("c", "return")])
        self.check([1, 2, 1, 2], None, program)
        self.check([2, 2, 2, 2], (("main", "a", "value"), "apart"), program)
        self.check([2, 1, 2, 1], (("main", "a", "value"), "balance"), program)

    def test_cuts(self):
        program = tried()
        self.check([0] * 17, None, program, True)
        self.check([0, 0, 0, 0, 0, 4] + [0] * 11, None, program, True)
        self.check([0, 0, 0, 0, 1] + [0] * 12, (("f", "a", "cut"), "balance"), program, True)
        self.check([0, 0, 0, 1, 0, 0, 0, 0, 0, 1, 0, 0, 0, 0, 0, 1, 0], (("main", "d", "cut"), "apart"), program, True)
        self.check([0, 0, 0, 1, 0, 1, 0, 0, 0, 1, 0, 0, 0, 0, 0, 1, 0], None, program, True)
        self.check([], None, endless(), False)

    def test_against_drawing_up(self):
        for seed in range(80):
            dice = chance(seed)
            program = some_program(dice)
            for cuts in [False, True]:
                held = counting(program, dice, cuts)
                if not held:
                    continue
                counts = tally(program, [dice.choice(held)[0] for _ in range(3)], cuts)
                for _ in range(10):
                    other = [max(0, n + dice.choice([0, 0, 0, 1, -1])) for n in counts]
                    self.assertIs(is_tally(program, other, cuts), misfit(program, other, cuts) is None)
                    if is_tally(program, other, cuts):
                        self.assertEqual(tally(program, drawn_up(program, other, cuts), cuts), other)
                    else:
                        with self.assertRaises(InvalidProfile) as caught:
                            drawn_up(program, other, cuts)
                        self.assertIs(caught.exception.value, other)


class DrawingUp(unittest.TestCase):
    """[29]"""

    def check(self, program, counts, cuts):
        ways = drawn_up(program, counts, cuts)
        self.assertEqual(tally(program, ways, cuts), counts)
        for way in ways:
            self.assertIs(is_way(program, way), True)
            if not cuts:
                self.assertEqual(stack_behind(program, way), [])
        return ways

    def test_none(self):
        self.assertEqual(self.check(tried(), [0] * 7, False), [])
        self.assertEqual(self.check(tried(), [0] * 17, True), [])
        self.assertEqual(self.check(endless(), [], False), [])

    def test_ways_that_are_cut_at_once(self):
        self.assertEqual(self.check(tried(), [0, 0, 0, 0, 0, 3] + [0] * 11, True), [[], [], []])

    def test_rings_that_must_be_put_in(self):
        self.assertEqual(len(self.check(tried(), [1, 30, 1, 1, 30, 1, 30], False)), 1)
        program = of_blocks([
            ("a", [], ("test", "x", "b", "c")), ("b", [], ("test", "x", "a", "b")), ("c", [], ("test", "x", "a", "d")),
            ("d", [], ("test", "x", "e", "d")),
            ("e", [], END),
        ])
        self.assertEqual(len(self.check(program, [7, 6, 7, 9, 5, 1, 1, 20, 1], False)), 1)

    def test_calls_within_calls(self):
        program = of_blocks([("a", [], ("test", "x", "b", "c")), ("b", [], ("call", "x", "main", (), "a")),
            ("c", [], END)])
        for many in [1, 2, 100, 249]:
            self.assertEqual(len(self.check(program, [many, many + 1, many, many + 1], False)), 1)
            self.assertEqual(len(self.check(program, [many, many + 3, many, many + 3], False)), 3)

    def test_within_seconds(self):
        begin = time.perf_counter()
        self.check(itself(), [249, 1, 249, 250], False)
        self.check(tried(), [1, 330, 1, 1, 330, 1, 330], False)
        labels = [f"b{k}" for k in range(40)]
        program = of_blocks([(label, [], ("test", "x", labels[(k * 7 + 1) % 40], labels[(k * 3 + 2) % 40])) for k,
            label in enumerate(labels)])
        self.check(program, tally(program, [[]], True), True)
        way, stack = some_way(program, chance(1), 1000)
        self.check(program, tally(program, [way], True), True)
        self.assertLess(time.perf_counter() - begin, 20)

    def test_of_many_programs(self):
        for seed in range(150):
            dice = chance(seed)
            program = some_program(dice)
            for cuts in [False, True]:
                held = counting(program, dice, cuts)
                for many in [1, 4]:
                    ways = [dice.choice(held)[0] for _ in range(many)] if held else []
                    self.assertEqual(len(self.check(program, tally(program, ways, cuts), cuts)), len(ways))

    def test_refusals(self):
        for value in odd_values() + [[2, 3, 2, 2, 3, 2, 2], [0, 3, 0, 0, 3, 0, 3], [0] * 8, (0,) * 7]:
            with self.assertRaises(InvalidProfile) as caught:
                drawn_up(tried(), value, False)
            self.assertIs(caught.exception.value, value)


class FullTallies(unittest.TestCase):
    """[29]"""

    def check(self, program, cuts):
        counts = full_tally(program, cuts)
        self.assertEqual(len(counts), len(moves(program, cuts)))
        self.assertTrue(all(type(n) is int and n > 0 for n in counts))
        self.assertIs(is_tally(program, counts, cuts), True)
        return counts

    def test_of_many_programs(self):
        for seed in range(200):
            program = some_program(chance(seed), 4, 6)
            for cuts in [False, True]:
                counts = self.check(program, cuts)
                if sum(counts) < 500:
                    self.assertEqual(tally(program, drawn_up(program, counts, cuts), cuts), counts)

    def test_of_programs_without_whole_ways(self):
        self.assertEqual(full_tally(endless(), False), [])
        self.check(endless(), True)

    def test_of_a_tower_of_calls(self):
        functions = []
        for k in range(8):
            blocks = [(f"b{j}", [], ("call", "x", f"f{k + 1}", (), f"b{j + 1}")) for j in range(4)] if k < 7 else []
            functions.append((f"f{k}", [], blocks + [(f"b{len(blocks)}", [], END)]))
        for cuts in [False, True]:
            counts = self.check(("program", functions), cuts)
            self.assertGreaterEqual(max(counts), 4 ** 7)


class Refusals(unittest.TestCase):
    """[2], [26] to [29]"""

    def test_programs_ahead_of_flags_ahead_of_the_rest(self):
        calls = [(moves, ()), (way_places, ()), (tally, (None,)), (edge_counts, (None,)), (misfit, (None,)),
            (is_tally, (None,)),
                 (drawn_up, (None,)), (full_tally, ())]
        for value in odd_values() + [of_blocks([])]:
            for function, more in calls:
                with self.assertRaises(InvalidProgram) as caught:
                    function(value, *more, None)
                self.assertIs(caught.exception.value, value)
                if not isinstance(value, bool):
                    with self.assertRaises(InvalidFlag) as caught:
                        function(tried(), *more, value)
                    self.assertIs(caught.exception.value, value)

    def test_nothing_is_changed_and_all_lists_are_new(self):
        program, counts = tried(), [2, 3, 2, 2, 3, 2, 3]
        before = copy.deepcopy(program)
        first = moves(cuts=False, program=program)
        for move, led in first:
            led.append(1)
        ways = drawn_up(cuts=False, counts=counts, program=program)
        held = copy.deepcopy(ways)
        tally(cuts=False, ways=ways, program=program).clear()
        self.assertEqual(ways, held)
        ways[0].clear()
        edge_counts(cuts=False, counts=counts, program=program).clear()
        misfit(cuts=False, counts=counts, program=program)
        is_tally(cuts=False, value=counts, program=program)
        full_tally(cuts=False, program=program).clear()
        way_places(cuts=False, program=program).clear()
        self.assertEqual([program, counts], [before, [2, 3, 2, 2, 3, 2, 3]])
        self.assertEqual(moves(program, False), moves(before, False))
        self.assertEqual(len(moves(program, False)[0][1]), 2)
        lists = [id(led) for move, led in moves(program, True)] + [id(way) for way in drawn_up(program, counts, False)]
        self.assertEqual(len(set(lists)), len(lists))
