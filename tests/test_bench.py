import copy
import time
import unittest

from fewprobes.balance import drawn_up
from fewprobes.bench import Bench
from fewprobes.blocks import edges
from fewprobes.compiler import compiled, statement_counts
from fewprobes.cover import least_cover, shows_all
from fewprobes.edits import carried
from fewprobes.errors import (
    InvalidEdge, InvalidFlag, InvalidList, InvalidNumber, InvalidProgram, NothingToRedo, NothingToUndo, Unlike,
)
from fewprobes.probes import is_enough, least_probes, parted
from fewprobes.profiles import merged, recorded
from fewprobes.readings import read_source
from fewprobes.rebuild import counted, meant, rebuilt
from fewprobes.runs import Runner, counters, run, trace
from fewprobes.seen import seen_back, seen_in
from fewprobes.sourceruns import source_run
from makers import chance, some_program, some_source, some_way
from samples import odd_values, of_blocks
from test_edits import edited, old
from test_rebuild import without_counter_999

END = ("return", "x")
ENDS = [("f", "in", "return"), ("main", "done", "return")]


def pair():
    """The program of the document's example: main calls f in a loop."""
    return ("program", [
        ("main", [], [("top", [("read", "x")], ("test", "x", "more", "done")),
            ("more", [], ("call", "y", "f", ("x",), "top")), ("done", [], ("return", "x"))]),
        ("f", ["a"], [("in", [], ("return", "a"))]),
    ])


def all_of(bench):
    """All that a bench tells of itself."""
    return copy.deepcopy([bench.program(), bench.prices(), bench.probes(), bench.takings(), len(bench), bench.log()])


def filled():
    """A bench with changes of each kind, one of them taken back."""
    bench = Bench(pair())
    bench.price(("main", "top", "yes"), 7)
    bench.choose(list(ENDS))
    bench.record([], [4, 5], 99)
    bench.record([], [6], 2)
    bench.take(bench)
    bench.price(("main", "top", "no"), 0)
    bench.undo()
    return bench


class Refusing(unittest.TestCase):
    """The errors of each method; a call that is refused changes nothing."""

    def refuses(self, kind, value, bench, name, *arguments, **more):
        before, twin = all_of(bench), bench.copy()
        with self.assertRaises(kind) as caught:
            getattr(bench, name)(*arguments, **more)
        self.assertIs(caught.exception.value, value)
        self.assertEqual(all_of(bench), before)
        self.assertTrue(bench == twin)
        twin.redo()
        again = bench.copy()
        again.redo()
        self.assertTrue(again == twin)

    def test_programs(self):
        for value in odd_values() + [("program", [])]:
            with self.assertRaises(InvalidProgram) as caught:
                Bench(value)
            self.assertIs(caught.exception.value, value)
            self.refuses(InvalidProgram, value, filled(), "edit", value, None)

    def test_prices(self):
        bench, edge = filled(), ("main", "top", "no")
        for value in odd_values() + [list(edge), ("main", "top", "stands"), ("f", "top", "no")]:
            self.refuses(InvalidEdge, value, bench, "price", value, None)
        for value in odd_values() + [10 ** 9 + 1]:
            if isinstance(value, bool) or not isinstance(value, int) or not 0 <= value <= 10 ** 9:
                self.refuses(InvalidNumber, value, bench, "price", edge, value)

    def test_probes(self):
        bench, edge = filled(), ("main", "top", "no")
        for value in odd_values() + [[edge, edge], (edge,), [edge, None], [list(edge)], [("main", "top", "stands")]]:
            if value != []:
                self.refuses(InvalidList, value, bench, "choose", value)
                self.refuses(InvalidList, value, bench, "edit", pair(), value)

    def test_flags(self):
        bench = filled()
        for value in odd_values():
            if not isinstance(value, bool):
                self.refuses(InvalidFlag, value, bench, "choose_least", value)
                self.refuses(InvalidFlag, value, bench, "choose_least", value, cuts=None)
                self.refuses(InvalidFlag, value, bench, "choose_least", True, cuts=value)
                self.refuses(InvalidFlag, value, bench, "choose_least", sums=False, cuts=value)
        with self.assertRaises(TypeError):
            bench.choose_least(True, False)

    def test_runs_and_ways(self):
        bench = filled()
        for value in odd_values() + [[1]]:
            if value != []:
                self.refuses(InvalidList, value, bench, "record", value, None, None)
            if not (isinstance(value, list) and all(type(each) is int for each in value)):
                self.refuses(InvalidList, value, bench, "record", [], value, None)
            if isinstance(value, bool) or not isinstance(value, int) or not 0 <= value <= 20000:
                self.refuses(InvalidNumber, value, bench, "record", [], [], value)
            if value != []:
                self.refuses(InvalidList, value, bench, "record_way", value)
        self.refuses(InvalidNumber, 20001, bench, "record", [], [], 20001)
        for value in [[("main", "done", "return")], [("main", "top", "yes"), ("main", "more", "call"), ("f", "in",
                "return")]]:
            self.refuses(InvalidList, value, bench, "record_way", value)

    def test_other_benches(self):
        bench = filled()
        same = Bench(pair())
        same.choose(ENDS[::-1])
        other = Bench(old())
        for value in odd_values() + [Bench(pair()), other, same, Runner(pair(), [], [])]:
            self.refuses(Unlike, value, bench, "take", value)

    def test_sums_of_probes_that_are_not_enough(self):
        bench = filled()
        bench.choose([("main", "done", "return")])
        bench.record([], [1], 2)
        bench.price(("main", "top", "no"), 0)
        bench.undo()
        before = all_of(bench)
        for name, arguments in [("sums", ()), ("edit", (pair(), [])), ("edit", (old(), []))]:
            with self.assertRaises(Unlike) as caught:
                getattr(bench, name)(*arguments)
            self.assertEqual(caught.exception.value, [("main", "done", "return")])
            caught.exception.value.clear()
            self.assertEqual(all_of(bench), before)

    def test_edits_that_can_not_be_carried(self):
        bench = filled()
        other = ("program", [("main", ["n"], pair()[1][0][2]), pair()[1][1]])
        self.refuses(Unlike, other, bench, "edit", other, [])
        other = ("program", [pair()[1][0], ("f", ["a"], [("in", [], ("raise", "a"))])])
        before = all_of(bench)
        with self.assertRaises(Unlike) as caught:
            bench.edit(other, [])
        self.assertEqual(caught.exception.value, ("f", "in"))
        self.assertEqual(all_of(bench), before)

    def test_edits_of_a_bench_whose_probes_tell_no_sums(self):
        bench = Bench(pair())
        before = all_of(bench)
        with self.assertRaises(Unlike) as caught:
            bench.edit(pair(), [])
        self.assertEqual(caught.exception.value, [])
        self.assertEqual(all_of(bench), before)
        loop = of_blocks([("a", [], ("go", "a"))])
        bench = Bench(loop)
        bench.edit(loop, [("main", "a", "go")])
        self.assertEqual(bench.probes(), [("main", "a", "go")])

    def test_nothing_to_undo_or_redo(self):
        bench = Bench(pair())
        for name, kind in [("undo", NothingToUndo), ("redo", NothingToRedo)]:
            with self.assertRaises(kind):
                getattr(bench, name)()
        bench.choose([])
        with self.assertRaises(NothingToRedo):
            bench.redo()
        bench.undo()
        with self.assertRaises(NothingToUndo):
            bench.undo()
        bench.redo()
        with self.assertRaises(NothingToRedo):
            bench.redo()
        bench.undo()
        bench.price(("main", "top", "no"), 1)
        with self.assertRaises(NothingToRedo):
            bench.redo()
        self.assertEqual(bench.log(), [("price", ("main", "top", "no"), 1)])


class Keeping(unittest.TestCase):
    """[52], [53]"""

    def test_a_new_bench(self):
        bench = Bench(pair())
        self.assertEqual(all_of(bench), [pair(), [1] * 7, [], (0, [], [0] * 4, [0] * 4), 0, []])

    def test_prices(self):
        bench = Bench(pair())
        for number, edge in enumerate(edges(pair())):
            bench.price(edge, number * 10 ** 8)
        bench.price(edges(pair())[0], 10 ** 9)
        self.assertEqual(bench.prices(), [10 ** 9] + [number * 10 ** 8 for number in range(1, 7)])
        self.assertEqual(len(bench.log()), 8)
        bench.price(edges(pair())[0], 10 ** 9)
        self.assertEqual(len(bench.log()), 9)

    def test_probes_len_and_in(self):
        bench = Bench(pair())
        bench.choose(list(ENDS))
        self.assertEqual([bench.probes(), len(bench)], [ENDS, 2])
        for edge in edges(pair()):
            self.assertIs(edge in bench, edge in ENDS)
            self.assertIs(edge not in bench, edge not in ENDS)
        for value in odd_values() + [list(ENDS[0]), ENDS, ("main", "done", "stands"), bench, Runner(pair(), [], []),
                ({}, [], 1), (bench, bench, bench)]:
            self.assertIs(value in bench, False)
        bench.choose([])
        self.assertEqual([len(bench), ENDS[0] in bench], [0, False])

    def test_takings_begin_anew_with_other_probes_also_with_equal_ones(self):
        bench = filled()
        for choose in [lambda: bench.choose(ENDS), lambda: bench.choose(bench.probes()), lambda: bench.choose([]),
                lambda: bench.choose_least(True), lambda: bench.choose_least(False), lambda: bench.choose(ENDS[::-1])]:
            bench.record([], [4, 5], 3)
            self.assertEqual(bench.takings()[0] > 0, True)
            choose()
            self.assertEqual(bench.takings(), (0, [0] * len(bench), [0] * 4, [0] * 4))
            self.assertEqual(bench.prices()[0], 7)

    def test_choose_least(self):
        for program in [pair(), old()] + [some_program(chance(seed)) for seed in range(40)]:
            bench = Bench(program)
            dice = chance(5)
            for edge in edges(program):
                bench.price(edge, dice.choice([0, 1, 5, 10 ** 9]))
            prices = list(zip(edges(program), bench.prices()))
            for cuts in [False, True]:
                self.assertIsNone(bench.choose_least(True, cuts=cuts))
                self.assertEqual(bench.probes(), least_probes(program, prices, cuts))
                self.assertIs(is_enough(program, bench.probes(), cuts), True)
                self.assertEqual(bench.log()[-1], ("choose", bench.probes()))
                bench.choose_least(False, cuts=cuts)
                self.assertEqual(bench.probes(), least_cover(program, prices, cuts))
                self.assertIs(shows_all(program, bench.probes(), cuts), True)
                self.assertEqual(bench.log()[-1], ("choose", bench.probes()))
            bench.choose_least(sums=True)
            self.assertEqual(bench.probes(), least_probes(program, prices, True))
            bench.choose_least(False)
            self.assertEqual(bench.probes(), least_cover(program, prices, True))


class Taking(unittest.TestCase):
    """[54], [56]"""

    def test_of_the_example(self):
        bench = Bench(pair())
        bench.choose(list(ENDS))
        self.assertEqual(bench.record([], [4, 5], 99), (("value", 0), [], []))
        self.assertEqual(bench.record([], [6], 2), (("on",), [("main", "more"), ("f", "in")], []))
        self.assertEqual(bench.takings(), (2, [2, 1], [0, 1, 0, 0], [0, 0, 0, 1]))
        self.assertEqual(bench.sums(), [3, 1, 3, 2, 0, 1, 2])
        self.assertEqual(bench.seen(), ["yes", "yes", "yes", "yes", "no", "yes", "yes"])
        bench.undo()
        self.assertEqual(bench.takings(), (1, [2, 1], [0] * 4, [0] * 4))
        self.assertEqual(len(bench.log()), 2)

    def test_takings_against_profiles_of_runs_and_ways(self):
        for seed in range(80):
            dice = chance(seed)
            program = some_program(dice)
            bench = Bench(program)
            bench.choose(dice.sample(edges(program), dice.randint(0, len(edges(program)))))
            ways = []
            for _ in range(4):
                if dice.random() < 0.5:
                    given = ([dice.randint(-1, 1) for _ in program[1][0][1]], [dice.choice([0, 1]) for _ in range(4)],
                        dice.choice([0, 1, 5, 40]))
                    self.assertEqual(bench.record(*given), run(program, *given))
                    ways.append(trace(program, *given))
                else:
                    ways.append(some_way(program, dice, 10)[0])
                    self.assertIsNone(bench.record_way(ways[-1]))
                self.assertEqual(bench.log()[-1], ("record", ways[-1]))
            profile = merged(program, [recorded(program, way) for way in ways])
            known = dict(zip(edges(program), profile[2]))
            self.assertEqual(bench.takings(), (4, [known[probe] for probe in bench.probes()], *profile[3:]))
            cuts = any(profile[3]) or any(profile[4])
            if is_enough(program, bench.probes(), cuts):
                self.assertEqual(bench.sums(), profile[2])
            else:
                with self.assertRaises(Unlike) as caught:
                    bench.sums()
                self.assertEqual(caught.exception.value, bench.probes())
            seen = seen_in(program, bench.probes(), profile)
            self.assertEqual(bench.seen(), seen_back(program, bench.probes(), seen))
            for word, many in zip(bench.seen(), profile[2]):
                self.assertIn(word, ["yes", "open"] if many else ["no", "open"])

    def test_probes_that_are_chosen_tell_all(self):
        for seed in range(80):
            dice = chance(seed)
            program = some_program(dice)
            for cuts in [False, True]:
                pairs = [pair for pair in [some_way(program, dice, 8) for _ in range(6)] if cuts or not pair[1]]
                profile = merged(program, [recorded(program, way) for way, stack in pairs])
                bench = Bench(program)
                bench.choose_least(True, cuts=cuts)
                for way, stack in pairs:
                    bench.record_way(way)
                self.assertEqual(bench.sums(), profile[2])
                bench.choose_least(False, cuts=True)
                for way, stack in pairs:
                    bench.record_way(way)
                self.assertEqual(bench.seen(), ["yes" if many else "no" for many in profile[2]])
                self.assertEqual(bench.sums(), profile[2])

    def test_take_of_another_bench_and_of_itself(self):
        bench, other = Bench(pair()), Bench(pair())
        for each in [bench, other]:
            each.choose(list(ENDS))
        other.price(("main", "top", "yes"), 5)
        bench.record([], [4, 5], 99)
        other.record([], [6], 2)
        before = all_of(other)
        self.assertIsNone(bench.take(other))
        self.assertEqual(all_of(other), before)
        self.assertEqual(bench.takings(), (2, [2, 1], [0, 1, 0, 0], [0, 0, 0, 1]))
        self.assertEqual(bench.log()[-1], ("take", (1, [0, 0], [0, 1, 0, 0], [0, 0, 0, 1])))
        bench.take(other=bench)
        self.assertEqual(bench.takings(), (4, [4, 2], [0, 2, 0, 0], [0, 0, 0, 2]))
        self.assertEqual(bench.log()[-1], ("take", (2, [2, 1], [0, 1, 0, 0], [0, 0, 0, 1])))
        other.record([], [], 9)
        self.assertEqual(bench.takings(), (4, [4, 2], [0, 2, 0, 0], [0, 0, 0, 2]))
        bench.undo()
        bench.undo()
        self.assertEqual(bench.takings(), (1, [2, 1], [0] * 4, [0] * 4))
        bench.take(bench.copy())
        self.assertEqual(bench.takings(), (2, [4, 2], [0] * 4, [0] * 4))

    def test_runs_of_no_block(self):
        bench = filled()
        bench.record([], [], 0)
        bench.record_way([])
        self.assertEqual(bench.takings(), (6, [4, 2], [0, 2, 0, 0], [2, 0, 0, 2]))
        self.assertEqual([row[1] for row in bench.log()[-2:]], [[], []])

    def test_sums_by_the_flag_that_takings_ask_for(self):
        program = of_blocks([("top", [("read", "x")], ("test", "x", "top", "stop")), ("stop", [], ("go", "stop"))])
        bench = Bench(program)
        self.assertEqual(bench.sums(), [0, 0, 0])
        bench.record([], [1, 1], 9)
        with self.assertRaises(Unlike):
            bench.sums()
        self.assertEqual(bench.seen(), ["open", "yes", "open"])
        whole = Bench(pair())
        whole.choose_least(True, cuts=False)
        self.assertLess(len(whole), 3)
        whole.record([], [4, 5], 99)
        self.assertEqual(whole.sums(), [2, 1, 2, 2, 0, 1, 2])


class Editing(unittest.TestCase):
    """[55]"""

    def test_takings_prices_and_probes(self):
        bench = filled()
        other = ("program", [
            ("main", [], [("top", [("read", "x")], ("test", "x", "go1", "done")),
                ("go1", [], ("call", "y", "g", ("x",), "top")), ("done", [], ("return", "x"))]),
            ("g", ["a"], [("in", [], ("return", "a"))]),
        ])
        probes = [("g", "in", "return"), ("main", "top", "no"), ("main", "go1", "call")]
        self.assertIsNone(bench.edit(other, probes))
        self.assertEqual(bench.program(), other)
        self.assertEqual(bench.probes(), probes)
        self.assertEqual(bench.prices(), [7, 1, 1, 1, 1, 1, 1])
        self.assertEqual(bench.takings(), (4, [4, 2, 6], [0, 2, 0, 0], [0, 0, 0, 2]))
        self.assertEqual(bench.log()[-1], ("edit", other, probes))
        bench.choose_least(True)
        bench.undo()
        self.assertEqual(bench.sums(), [6, 2, 6, 4, 0, 2, 4])
        bench.undo()
        self.assertEqual([bench.program(), bench.probes(), bench.takings()], [pair(), ENDS, (4, [4, 2], [0, 2, 0, 0],
            [0, 0, 0, 2])])
        bench.redo()
        self.assertEqual([bench.program(), bench.takings()[1]], [other, [4, 2, 6]])

    def test_prices_are_kept_for_edges_that_both_have(self):
        bench = Bench(pair())
        for number, edge in enumerate(edges(pair())):
            bench.price(edge, number + 10)
        bench.choose(ENDS)
        other = ("program", [pair()[1][0], ("f", ["b"], [("in", [], ("test", "b", "on", "on")), ("on", [], END)])])
        bench.edit(other, edges(other))
        self.assertEqual(bench.prices(), [10, 11, 12, 13, 14, 15, 1, 1, 1])
        bench.edit(pair(), [])
        self.assertEqual(bench.prices(), [10, 11, 12, 13, 14, 15, 1])

    def test_against_the_same_runs_recorded_anew(self):
        done = 0
        for seed in range(300):
            dice = chance(seed)
            program = some_program(dice)
            other = edited(program, dice)
            bench, anew = Bench(program), Bench(other)
            bench.choose_least(True)
            probes = dice.sample(edges(other), dice.randint(0, min(5, len(edges(other)))))
            anew.choose(probes)
            for _ in range(3):
                given = ([dice.randint(-1, 2) for _ in program[1][0][1]], [dice.choice([0, 0, 1]) for _ in range(5)],
                    dice.choice([0, 1, 3, 8, 30]))
                bench.record(*given)
                anew.record(*given)
            runs, numbers, waiting, standing = bench.takings()
            profile = ("profile", runs, bench.sums(), waiting, standing)
            try:
                right = carried(program, other, profile)
            except Unlike as wrong:
                with self.assertRaises(Unlike) as caught:
                    bench.edit(other, probes)
                self.assertEqual(caught.exception.value, wrong.value)
                continue
            bench.edit(other, probes)
            self.assertEqual(bench.takings(), anew.takings())
            self.assertEqual(bench.takings()[2:], right[3:])
            done += 1
        self.assertGreater(done, 80)

    def test_sums_in_the_new_program_from_probes_of_the_elder_one(self):
        bench = Bench(pair())
        bench.choose_least(True)
        bench.record([], [1, 2, 3], 99)
        bench.record([], [1, 2, 3], 4)
        bench.edit(pair(), edges(pair()))
        profile = merged(pair(), [recorded(pair(), trace(pair(), [], [1, 2, 3], most)) for most in [99, 4]])
        self.assertEqual(bench.takings(), profile[1:])
        bench.edit(pair(), [])
        with self.assertRaises(Unlike):
            bench.edit(pair(), edges(pair()))


class Changes(unittest.TestCase):
    """[57]"""

    def act(self, bench, dice):
        """Makes some change; False if it was refused."""
        before = all_of(bench)
        program = bench.program()
        try:
            self.change(bench, dice, program)
        except Unlike:
            self.assertEqual(all_of(bench), before)
            return False
        return True

    def change(self, bench, dice, program):
        word = dice.choice(["price", "choose", "choose_least", "edit", "record", "record_way", "take"])
        if word == "price":
            bench.price(dice.choice(edges(program)), dice.randint(0, 9))
        elif word == "choose":
            bench.choose(dice.sample(edges(program), dice.randint(0, 3)))
        elif word == "choose_least":
            bench.choose_least(dice.choice([False, True]), cuts=dice.choice([False, True]))
        elif word == "edit":
            other = dice.choice([pair(), ("program", [pair()[1][0], ("f", ["a"], [("in", [], ("go", "on")), ("on", [],
                ("return", "a"))])])])
            bench.edit(other, dice.sample(edges(other), dice.randint(0, 7)))
        elif word == "record":
            bench.record([], [dice.randint(0, 1) for _ in range(4)], dice.randint(0, 12))
        elif word == "record_way":
            bench.record_way(some_way(program, dice, 6)[0])
        else:
            bench.take(dice.choice([bench, bench.copy()]))

    def test_undo_and_redo_of_each_kind_of_change(self):
        kinds = {}
        for seed in range(60):
            dice = chance(seed)
            bench = Bench(pair())
            states = [all_of(bench)]
            for _ in range(25):
                turn = dice.random()
                if turn < 0.6:
                    if self.act(bench, dice):
                        at = len(bench.log())
                        self.assertEqual(bench.log()[:-1], states[at - 1][5])
                        states = states[:at] + [all_of(bench)]
                        kinds[bench.log()[-1][0]] = True
                        with self.assertRaises(NothingToRedo):
                            bench.redo()
                elif turn < 0.85 and bench.log():
                    self.assertIsNone(bench.undo())
                elif len(states) > len(bench.log()) + 1:
                    self.assertIsNone(bench.redo())
                self.assertEqual(all_of(bench), states[len(bench.log())])
            for many in range(len(bench.log()))[::-1]:
                bench.undo()
                self.assertEqual(all_of(bench), states[many])
            for state in states[1:]:
                bench.redo()
                self.assertEqual(all_of(bench), state)
        self.assertEqual(sorted(kinds), ["choose", "edit", "price", "record", "take"])

    def test_the_log(self):
        bench = filled()
        log = [("price", ("main", "top", "yes"), 7), ("choose", ENDS), ("record", trace(pair(), [], [4, 5], 99)),
            ("record", trace(pair(), [], [6], 2)), ("take", (2, [2, 1], [0, 1, 0, 0], [0, 0, 0, 1]))]
        self.assertEqual(bench.log(), log)
        bench.redo()
        self.assertEqual(bench.log(), log + [("price", ("main", "top", "no"), 0)])
        bench.undo()
        bench.undo()
        self.assertEqual(bench.log(), log[:4])
        bench.edit(pair(), ENDS[:1])
        self.assertEqual(bench.log(), log[:4] + [("edit", pair(), ENDS[:1])])

    def test_a_refused_call_leaves_what_can_be_made_again(self):
        bench = filled()
        for call in [lambda: bench.price(("main", "top", "no"), -1), lambda: bench.take(None),
                lambda: bench.record_way(None), lambda: bench.record([], [], None), lambda: bench.choose(None),
                lambda: bench.edit(None, None), lambda: bench.choose_least(None)]:
            with self.assertRaises(ValueError):
                call()
        bench.redo()
        self.assertEqual(bench.log()[-1], ("price", ("main", "top", "no"), 0))

    def test_copies_go_on_by_themselves(self):
        bench = filled()
        other = bench.copy()
        self.assertIsInstance(other, Bench)
        self.assertIsNot(other, bench)
        self.assertEqual(all_of(other), all_of(bench))
        before = all_of(bench)
        other.redo()
        self.assertEqual(other.prices()[:2], [7, 0])
        other.undo()
        other.undo()
        other.choose([])
        other.price(("f", "in", "return"), 3)
        self.assertEqual(all_of(bench), before)
        bench.redo()
        self.assertEqual(bench.prices()[:2], [7, 0])
        self.assertEqual(len(other.log()), 6)
        for _ in range(6):
            other.undo()
        self.assertEqual(all_of(other), all_of(Bench(pair())))

    def test_equality(self):
        def made(program=None, price=7, probes=None, inputs=(4, 5)):
            bench = Bench(program or pair())
            bench.choose(ENDS if probes is None else probes)
            bench.record([], list(inputs), 99)
            bench.price(("main", "top", "yes"), price)
            return bench

        one = made()
        self.assertTrue(one == made())
        self.assertFalse(one != made())
        for other in [made(price=6), made(probes=ENDS[::-1]), made(inputs=(4,)), made(probes=ENDS[:1]), Bench(pair()),
                made(program=("program", [pair()[1][0], ("f", ["a"], [("in", [("set", "x", 1)], ("return", "a"))])]))]:
            self.assertFalse(one == other)
            self.assertTrue(one != other)
        for value in odd_values() + [Runner(pair(), [], [])]:
            self.assertFalse(one == value)
            self.assertTrue(one != value)
        other = Bench(pair())
        other.price(("main", "top", "yes"), 7)
        other.choose(ENDS)
        other.record_way(trace(pair(), [], [4, 5], 99))
        self.assertTrue(one == other)
        self.assertNotEqual(one.log(), other.log())
        other.undo()
        self.assertFalse(one == other)
        other.redo()
        self.assertTrue(one == other)
        other.record([], [], 0)
        self.assertFalse(one == other)


class Joining(unittest.TestCase):
    """What points join."""

    def test_a_rebuilt_programs_counters_are_the_plain_runs_takings(self):
        for seed in range(80):
            dice = chance(seed)
            program = without_counter_999(some_program(dice))
            bench = Bench(program)
            bench.choose(dice.sample(edges(program), dice.randint(0, len(edges(program)))))
            made = rebuilt(program, bench.probes())
            given = ([dice.randint(-1, 1) for _ in program[1][0][1]], [dice.choice([0, 1]) for _ in range(4)])
            for most in [0, 1, 4, 9, 30]:
                stack = run(made, *given, most)[1]
                own, late = meant(program, bench.probes(), stack)
                told = counted(program, bench.probes(), counters(made, *given, most), stack)
                runner = Runner(program, *given)
                for _ in range(most + 1):
                    if [runner.stack(), self.numbers(program, bench, runner)] == [own, told]:
                        break
                    runner.step()
                bench.choose(bench.probes())
                bench.record(*given, runner.many)
                self.assertEqual(bench.takings()[1], told)
                self.assertEqual([bench.takings()[3].count(1), bench.takings()[3].count(0)], [len(own[-1:]),
                    sum(len(function[2]) for function in program[1]) - len(own[-1:])])

    def numbers(self, program, bench, runner):
        way = runner.trace()
        return [way.count(probe) for probe in bench.probes()]

    def test_statement_counts_from_sums(self):
        for seed in range(60):
            dice = chance(seed)
            source = some_source(dice)
            program = compiled(source)
            bench = Bench(program)
            bench.choose_least(True)
            arguments = [dice.randint(-1, 2) for _ in source[1][0][1]]
            inputs = [dice.choice([0, 1, 2]) for _ in range(5)]
            bench.record(arguments, inputs, 200)
            runs, numbers, waiting, standing = bench.takings()
            counts = statement_counts(source, ("profile", runs, bench.sums(), waiting, standing))
            outcome, printed, begun = source_run(source, arguments, inputs, 99)
            if outcome != ("on",):
                self.assertEqual(counts, [begun.count(number) for number in range(len(counts))])
        text = "fun main() { read x; if x { print 1; } else { print 2; } }"
        bench = Bench(compiled(read_source(text)))
        bench.choose_least(True)
        for inputs in [[1], [1], [0]]:
            bench.record([], inputs, 99)
        self.assertEqual(statement_counts(read_source(text), ("profile", 3, bench.sums(), *bench.takings()[2:])),
            [3, 3, 2, 1])

    def test_parted_tallies_leave_equal_takings(self):
        done = 0
        for seed in range(60):
            dice = chance(seed)
            program = some_program(dice)
            for cuts in [False, True]:
                probes = dice.sample(edges(program), dice.randint(0, min(2, len(edges(program)))))
                found = parted(program, probes, cuts)
                if found is None or max(sum(counts) for counts in found) > 900:
                    continue
                benches = []
                for counts in found:
                    bench = Bench(program)
                    bench.choose(probes)
                    for way in drawn_up(program, counts, cuts):
                        bench.record_way(way)
                    benches.append(bench)
                    if not cuts or any(bench.takings()[2]) or any(bench.takings()[3]):
                        with self.assertRaises(Unlike):
                            bench.sums()
                one, other = [bench.takings()[1:] for bench in benches]
                self.assertEqual(one, other)
                done += 1
        self.assertGreater(done, 40)


class Plainness(unittest.TestCase):
    """[1], [2], [3]"""

    def test_what_is_returned_is_new(self):
        bench = filled()
        bench.edit(pair(), list(ENDS))
        before = all_of(bench)
        bench.prices().clear()
        bench.probes().clear()
        for part in bench.takings()[1:]:
            part.append(1)
        spoil(bench.program())
        bench.sums().clear()
        bench.seen().clear()
        log = bench.log()
        for row in log:
            for part in row[1:]:
                spoil(part)
        log.clear()
        bench.record([], [1], 3)[1].clear()
        bench.undo()
        self.assertEqual(all_of(bench), before)

    def test_what_was_handed_in_may_change_afterwards(self):
        program, probes, way = pair(), list(ENDS), trace(pair(), [], [5], 9)
        arguments, inputs = [], [4, 5]
        bench = Bench(program)
        bench.choose(probes)
        bench.record_way(way)
        bench.record(arguments, inputs, 99)
        bench.edit(program, probes)
        twin, before = bench.copy(), all_of(bench)
        self.assertEqual([program, probes, way, arguments, inputs], [pair(), ENDS, trace(pair(), [], [5], 9), [],
            [4, 5]])
        for part in [program, probes, way, arguments, inputs]:
            spoil(part)
        self.assertEqual(all_of(bench), before)
        self.assertTrue(bench == twin)
        for many in range(4):
            bench.undo()
        self.assertEqual(all_of(bench), all_of(Bench(pair())))
        for many in range(4):
            bench.redo()
        self.assertEqual(all_of(bench), before)

    def test_arguments_by_their_names(self):
        bench = Bench(program=pair())
        bench.price(edge=ENDS[0], price=2)
        bench.choose(probes=ENDS)
        bench.choose_least(sums=True, cuts=False)
        bench.edit(program=pair(), probes=ENDS)
        self.assertEqual(bench.record(arguments=[], inputs=[1], most=9)[0], ("value", 0))
        bench.record_way(way=[])
        bench.take(other=bench.copy())
        self.assertEqual(bench.takings(), (4, [2, 2], [0] * 4, [2, 0, 0, 0]))
        self.assertEqual(len(bench.log()), 7)

    def test_great_programs_and_runs_within_seconds(self):
        begin = time.perf_counter()
        program = ("program", [(f"f{k}", [], [(f"b{j}", [("read", "x")], ("test", "x", f"b{(j + 1) % 5}", "b4") if j < 3
            else ("try", "y", f"f{(k + j) % 8}", (), "b4", "z", "b0") if j == 3 else ("return", "x"))
            for j in range(5)]) for k in range(8)])
        bench = Bench(program)
        bench.choose_least(True)
        dice = chance(1)
        for _ in range(5):
            bench.record([], [dice.randint(0, 3) for _ in range(10000)], 20000)
        profile = merged(program, [recorded(program, row[1]) for row in bench.log()[1:]])
        self.assertEqual(bench.sums(), profile[2])
        bench.edit(program, edges(program))
        self.assertEqual(bench.takings(), profile[1:])
        bench.choose_least(False)
        self.assertEqual(bench.seen(), ["no"] * len(edges(program)))
        bench.copy().take(bench)
        self.assertLess(time.perf_counter() - begin, 20)


def spoil(value):
    """Changes all lists within a value."""
    if isinstance(value, (list, tuple)):
        for part in value:
            spoil(part)
    if isinstance(value, list):
        value.append("spoilt")
