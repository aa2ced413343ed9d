import copy
import itertools
import math
import time
import unittest
from fractions import Fraction

from fewprobes.balance import drawn_up, edge_counts, is_tally, moves, tally, way_places
from fewprobes.blocks import edges
from fewprobes.errors import InvalidEdge, InvalidFlag, InvalidList, InvalidProgram, Unlike
from fewprobes.probes import (
    cheaper, is_enough, is_least, is_paper, is_parting, least_probes, needed, paper, parted, told_back,
)
from fewprobes.through import stack_behind
from makers import all_ways, chance, rank, some_program, some_way, sums_of
from samples import each_place, odd_values, of_blocks, swapped, with_put

END = ("return", "x")
TURN = ("f", ["n"], [("a", [], ("test", "n", "b", "c")), ("b", [], ("return", "n")), ("c", [], ("raise", "n"))])
BOTH = [False, True]


def tried():
    return ("program", [
        ("main", [], [("d", [("read", "x")], ("try", "y", "f", ("x",), "e", "z", "d")), ("e", [], ("return", "y"))]),
        TURN,
    ])


def server():
    return ("program", [("serve", [], [("top", [("read", "x")], ("test", "x", "job", "top")),
        ("job", [("print", "x")], ("go", "top"))])])


def twice():
    """main calls f at two blocks, one behind the other, as often as it likes."""
    return ("program", [
        ("main", [], [
            ("a", [], ("call", "x", "f", (), "b")), ("b", [], ("call", "x", "f", (), "c")),
            ("c", [], ("test", "x", "a", "d")), ("d", [], END),
        ]),
        ("f", [], [("a", [], END)]),
    ])


def dead():
    """A program some edges of which stand in no way, and some in no whole one."""
    return ("program", [
        ("main", [], [("a", [], ("test", "x", "b", "c")), ("b", [], ("call", "x", "g", (), "c")), ("c", [], END),
            ("u", [], ("go", "c"))]),
        ("g", [], [("a", [], ("test", "x", "a", "b")), ("b", [], ("go", "a"))]), ("h", [], [("a", [], END)]),
    ])


def great(dice, functions, blocks):
    """A program of so many functions and blocks in which nearly all edges are gone by some whole way."""
    names = [f"f{k}" for k in range(functions)]
    made = []
    for k, name in enumerate(names):
        labels = [f"b{j}" for j in range(blocks)]
        held = []
        for j, label in enumerate(labels[:-2]):
            other = dice.choice(labels)
            called = dice.choice(names[k:]) if dice.random() < 0.3 else names[min(k + 1, functions - 1)]
            tested = ("test", "x", labels[j + 1], other)
            held.append((label, [], tested if j == 0 or called == name else ("try", "x", called, (), labels[j + 1],
                "y", other)))
        made.append((name, [], held + [(labels[-2], [], ("test", "x", labels[-1], labels[0])), (labels[-1], [], END)]))
        made[-1][2][0] = (labels[0], [], ("test", "x", labels[1], labels[-1]))
        if dice.random() < 0.5:
            made[-1][2][-2] = (labels[-2], [], ("raise", "x"))
    return ("program", made)


class Seen:
    """What many ways of a program show: their sums at edges and their pauses."""

    def __init__(self, program, dice, cuts):
        self.program, self.edges, self.cuts = program, edges(program), cuts
        self.ways = [pair for pair in all_ways(program, 12, 700) if cuts or not pair[1]]
        self.ways += [pair for pair in (some_way(program, dice, 35) for _ in range(40)) if cuts or not pair[1]]
        rows = {tuple(sum(sums_of(program, self.edges, [pair]), [])) for pair in self.ways}
        many = len(self.edges)
        self.rows = [(list(row[many:]), list(row[:many])) for row in sorted(rows)[:300]]
        self.complete = len(rows) <= 300 and (not self.ways or all(tally(program, [way for way, stack in self.ways],
            cuts)))
        self.paused = rank([paused for paused, numbers in self.rows])

    def freedom(self, probes):
        """How many of the sums at probes can be anything each, the pauses being known."""
        at = [self.edges.index(probe) for probe in probes]
        return rank([paused + [numbers[k] for k in at] for paused, numbers in self.rows]) - self.paused

    def enough(self, probes):
        return self.freedom(probes) == self.freedom(self.edges)


def seen_programs(many, first=0):
    for seed in range(first, first + many):
        dice = chance(seed)
        program = some_program(dice)
        for cuts in BOTH:
            seen = Seen(program, dice, cuts)
            if seen.complete:
                yield dice, seen


class Enough(unittest.TestCase):
    """[30]"""

    def test_of_the_example(self):
        program = tried()
        for probes, whole, cut in [
            ([], False, False), ([("f", "a", "yes"), ("f", "a", "no")], True, True),
            ([("main", "d", "call")], False, False),
            ([("main", "d", "call"), ("f", "a", "no")], True, True),
            ([("f", "a", "no"), ("f", "c", "raise")], False, False),
            ([("main", "d", "fault"), ("main", "e", "return")], True, True), (edges(program), True, True),
        ]:
            self.assertIs(is_enough(program, probes, False), whole, probes)
            self.assertIs(is_enough(program, probes, True), cut, probes)
            self.assertIs(is_enough(program, probes[::-1], True), cut)

    def test_without_whole_ways(self):
        self.assertIs(is_enough(server(), [], False), True)
        self.assertIs(is_enough(server(), [("serve", "top", "yes")], True), False)
        self.assertIs(is_enough(server(), [("serve", "top", "yes"), ("serve", "top", "no")], True), True)
        self.assertIs(is_enough(server(), [("serve", "job", "go"), ("serve", "top", "no")], True), True)

    def test_against_sums_of_many_ways(self):
        judged = []
        for dice, seen in seen_programs(60):
            for _ in range(5):
                probes = dice.sample(seen.edges, dice.randint(0,
                    min(len(seen.edges), needed(seen.program, seen.cuts) + 1)))
                judged.append(is_enough(seen.program, probes, seen.cuts))
                self.assertIs(judged[-1], seen.enough(probes))
        self.assertGreater(judged.count(True), 50)
        self.assertGreater(judged.count(False), 50)

    def test_edges_that_stand_in_no_way(self):
        program = dead()
        for probe in [("main", "u", "go"), ("h", "a", "return"), ("main", "b", "value"), ("main", "b", "fault")]:
            self.assertIs(is_enough(program, [probe], False), False)
            self.assertIs(is_enough(program, [probe, ("main", "a", "no")], False), True)
        self.assertIs(is_enough(program, [("main", "c", "return"), ("g", "a", "yes")], True), False)


class Papers(unittest.TestCase):
    """[31]"""

    def test_for_each_edge_exactly_if_probes_are_enough(self):
        for seed in range(80):
            dice = chance(seed)
            program = some_program(dice)
            for cuts in BOTH:
                many = needed(program, cuts)
                probes = dice.sample(edges(program), dice.randint(0, min(len(edges(program)), many + 1)))
                told = [paper(program, probes, edge, cuts) for edge in edges(program)]
                self.assertIs(None not in told, is_enough(program, probes, cuts))
                for edge, value in zip(edges(program), told):
                    if value is not None:
                        self.check(program, probes, edge, value, cuts, dice)

    def check(self, program, probes, edge, value, cuts, dice):
        self.assertIs(is_paper(program, probes, edge, value, cuts), True)
        shares, marks, heights = value
        self.assertEqual([len(shares), len(heights)], [len(probes), len(way_places(program, cuts))])
        pauses = [move for move, led in moves(program, cuts) if move[2] in ("waits", "stands")]
        self.assertEqual(len(marks), len(pauses))
        for above, below in shares + marks + heights:
            self.assertEqual([type(above), type(below), below > 0, math.gcd(above, below)], [int, int, True, 1])
        held = [pair for pair in (some_way(program, dice, 20) for _ in range(5)) if cuts or not pair[1]]
        all_edges = edges(program)
        numbers, waiting, standing = sums_of(program, all_edges, held)
        labels = [(function[0], block[0]) for function in program[1] for block in function[2]]
        total = sum(Fraction(*share) * numbers[all_edges.index(probe)] for probe, share in zip(probes, shares))
        for mark, (name, label, way, leaving) in zip(marks, pauses):
            total += Fraction(*mark) * (waiting if way == "waits" else standing)[labels.index((name, label))]
        self.assertEqual(total, numbers[all_edges.index(edge)])

    def test_the_rule_move_by_move(self):
        for cuts in BOTH:
            program, probes, edge = tried(), [("f", "a", "yes"), ("f", "a", "no")], ("main", "d", "call")
            shares, marks, heights = paper(program, probes, edge, cuts)
            self.assertEqual(shares, [(1, 1), (1, 1)])
            height = {place: Fraction(*h) for place, h in zip(way_places(program, cuts), heights)}
            rest = [Fraction(*mark) for mark in marks]
            for (name, label, way, leaving), led in moves(program, cuts):
                own = {"value": ["call", "value"], "fault": ["call", "fault"], "waits": ["call"],
                "stands": []}.get(way, [way])
                gone = [(name, label, word) for word in own]
                left = (edge in gone) - sum(Fraction(*share) for probe, share in zip(probes, shares) if probe in gone)
                if way in ("waits", "stands"):
                    left -= rest.pop(0)
                self.assertEqual(left, height[(name, label, leaving)] - sum(height[place] for place in led))
            self.assertEqual([height.get(("main", "d", leaving), 0) for leaving in ["value", "fault", "cut"]],
                [0, 0, 0])

    def test_shares_that_are_no_whole_numbers(self):
        program = twice()
        for cuts in BOTH:
            self.assertEqual(paper(program, [("f", "a", "return")], ("main", "a", "value"), False)[0], [(1, 2)])
        self.assertIs(is_enough(program, [("main", "c", "yes"), ("f", "a", "return")], False), True)
        self.assertEqual(paper(program, [("main", "c", "yes"), ("f", "a", "return")], ("main", "d", "return"),
            False)[0], [(-1, 1), (1, 2)])

    def test_edges_that_stand_in_no_way(self):
        program = dead()
        self.assertEqual(paper(program, [("h", "a", "return")], ("main", "u", "go"), False)[0], [(0, 1)])
        self.assertEqual(paper(server(), [], ("serve", "top", "no"), False), ([], [], []))
        self.assertIs(is_paper(server(), [], ("serve", "top", "no"), ([], [], []), False), True)
        self.assertIsNone(paper(server(), [], ("serve", "top", "no"), True))

    def test_each_part_spoilt(self):
        program, probes, edge = tried(), [("f", "a", "yes"), ("f", "a", "no")], ("main", "d", "call")
        for cuts in BOTH:
            right = paper(program, probes, edge, cuts)
            for path in each_place(right):
                for thing in [None, True, 1, "x", (2, 1), (2, 2), (0, 2), (-1, -1), (1, 0), (True, 1), (1, True),
                    [1, 1], (1,), (1, 1, 1), (), []]:
                    value = with_put(right, path, thing)
                    self.assertIs(is_paper(program, probes, edge, value, cuts), repr(value) == repr(right),
                        (path, thing))
                inner = right
                for k in path:
                    inner = inner[k]
                if isinstance(inner, (list, tuple)):
                    self.assertIs(is_paper(program, probes, edge, with_put(right, path, swapped(inner)), cuts), False)
                if isinstance(inner, list):
                    for other in [inner[1:] if inner else None, inner + [(0, 1)]]:
                        self.assertIs(is_paper(program, probes, edge, with_put(right, path, other), cuts), False)
            for value in odd_values():
                self.assertIs(is_paper(program, probes, edge, value, cuts), False)
            self.assertIs(is_paper(program, probes, ("main", "d", "value"), right, cuts), False)

    def test_other_papers_than_the_returned_one(self):
        program, edge = tried(), ("main", "d", "call")
        probes = [("main", "d", "call"), ("main", "d", "value"), ("main", "e", "return")]
        plain = ([(1, 1), (0, 1), (0, 1)], [], [(0, 1)] * 6)
        self.assertIs(is_paper(program, probes, edge, plain, False), True)
        heights = dict.fromkeys(way_places(program, False), (0, 1))
        heights[("main", "e", "value")] = (1, 2)
        other = ([(1, 1), (1, 2), (-1, 2)], [], list(heights.values()))
        self.assertIs(is_paper(program, probes, edge, other, False), True)
        heights[("main", "e", "value")] = (-1, 2)
        self.assertIs(is_paper(program, probes, edge, ([(1, 1), (1, 2), (-1, 2)], [], list(heights.values())), False),
            False)
        heights = dict.fromkeys(way_places(program, False), (0, 1))
        heights[("main", "d", "value")] = (1, 1)
        self.assertIs(is_paper(program, probes, edge, (plain[0], [], list(heights.values())), False), False)


    def test_heights_of_main_places_are_0(self):
        program, edge = of_blocks([("a", [], END)]), ("main", "a", "return")
        self.assertIs(is_paper(program, [edge], edge, ([(1, 1)], [], [(0, 1)]), False), True)
        self.assertIs(is_paper(program, [edge], edge, ([(0, 1)], [], [(1, 1)]), False), False)
        self.assertIs(is_paper(program, [], edge, ([], [], [(1, 1)]), False), False)


class Parted(unittest.TestCase):
    """[32]"""

    def test_exactly_if_probes_are_not_enough(self):
        for seed in range(120):
            dice = chance(seed)
            program = some_program(dice, 4, 6)
            for cuts in BOTH:
                all_edges = edges(program)
                probes = dice.sample(all_edges, dice.randint(0, min(len(all_edges), needed(program, cuts) + 1)))
                value = parted(program, probes, cuts)
                self.assertIs(value is None, is_enough(program, probes, cuts))
                if value is not None:
                    self.check(program, probes, value, cuts)

    def check(self, program, probes, value, cuts):
        self.assertIs(type(value), tuple)
        one, other = value
        self.assertIs(is_parting(program, probes, value, cuts), True)
        self.assertIs(is_parting(program, probes, (other, one), cuts), True)
        self.assertTrue(is_tally(program, one, cuts) and is_tally(program, other, cuts))
        sums, more = edge_counts(program, one, cuts), edge_counts(program, other, cuts)
        self.assertNotEqual(sums, more)
        for edge, n, m in zip(edges(program), sums, more):
            if edge in probes:
                self.assertEqual(n, m)
        for (move, led), n, m in zip(moves(program, cuts), one, other):
            if move[2] in ("waits", "stands"):
                self.assertEqual(n, m)
        self.assertIsNot(one, other)

    def test_ways_drawn_up_from_both_have_the_same_sums_at_probes_alone(self):
        drawn = 0
        for seed in range(60):
            dice = chance(seed)
            program = some_program(dice)
            all_edges = edges(program)
            for cuts in BOTH:
                probes = dice.sample(all_edges, dice.randint(0, min(len(all_edges), needed(program, cuts))))
                value = parted(program, probes, cuts)
                if value is None or max(sum(value[0]), sum(value[1])) > 1000:
                    continue
                told = []
                for counts in value:
                    ways = drawn_up(program, counts, cuts)
                    told.append(sums_of(program, all_edges, [(way, stack_behind(program, way)) for way in ways]))
                (one, waiting, standing), (other, waits, stands) = told
                self.assertEqual([waiting, standing], [waits, stands])
                self.assertNotEqual(one, other)
                for probe in probes:
                    self.assertEqual(one[all_edges.index(probe)], other[all_edges.index(probe)])
                drawn += 1
        self.assertGreater(drawn, 40)

    def test_what_is_a_parting(self):
        program, probes = tried(), [("main", "d", "call")]
        one, other = [2, 1, 2, 2, 1, 2, 1], [1, 2, 1, 1, 2, 1, 2]
        self.assertIs(is_parting(program, probes, (one, other), False), True)
        self.assertIs(is_parting(program, [], (one, other), False), True)
        self.assertIs(is_parting(program, [("main", "d", "value")], (one, other), False), False)
        for value in [(one, one), [one, other], (one,), (one, other, one), (one, other[1:]), (one, tuple(other)),
            (one, None),
                      (one, [1, 2, 1, 1, 2, 1, 3]), (one, [True, 2, 1, 1, 2, 1, 2]), ([0, 3, 0, 0, 3, 0, 3], one)]:
            self.assertIs(is_parting(program, probes, value, False), False, value)
        for value in odd_values():
            for cuts in BOTH:
                self.assertIs(is_parting(program, probes, value, cuts), False)

    def test_unlike_pauses_part_nothing(self):
        program = tried()
        ways = [[("main", "d", "call")], [("main", "d", "call"), ("f", "a", "yes")]]
        one, other = [tally(program, [way], True) for way in ways]
        self.assertIs(is_parting(program, [], (one, other), True), False)

    def test_equal_sums_at_all_edges_part_nothing(self):
        program = of_blocks([("a", [], ("test", "x", "b", "c")), ("b", [], ("try", "x", "main", (), "c", "x", "d")),
            ("c", [], END),
                             ("d", [], ("raise", "x"))])
        down = [("main", "a", "yes"), ("main", "b", "call")]
        leaf, up = [("main", "a", "no"), ("main", "c", "return")], [("main", "b", "value"), ("main", "c", "return")]
        one = tally(program, [down + down + leaf + up + up, leaf], False)
        other = tally(program, [down + leaf + up, down + leaf + up], False)
        self.assertEqual(one, other)
        self.assertIs(is_parting(program, [], (one, other), False), False)


class Needed(unittest.TestCase):
    """[33]"""

    def test_of_the_examples(self):
        self.assertEqual([needed(tried(), cuts) for cuts in BOTH], [2, 2])
        self.assertEqual([needed(server(), cuts) for cuts in BOTH], [0, 2])
        self.assertEqual([needed(dead(), cuts) for cuts in BOTH], [1, 3])
        self.assertEqual([needed(of_blocks([("a", [], END)]), cuts) for cuts in BOTH], [1, 1])

    def test_against_sums_of_many_ways(self):
        found = []
        for dice, seen in seen_programs(100):
            found.append(needed(seen.program, seen.cuts))
            self.assertEqual(found[-1], seen.freedom(seen.edges))
        self.assertGreater(len(found), 150)
        self.assertGreater(max(found), 3)

    def test_is_the_length_of_the_least_list(self):
        for seed in range(200):
            program = some_program(chance(seed), 4, 6)
            for cuts in BOTH:
                least = least_probes(program, [(edge, 1) for edge in edges(program)], cuts)
                self.assertEqual(len(least), needed(program, cuts))


def price_of(prices, probes):
    held = dict(prices)
    return sum(held[probe] for probe in probes)


def cheapest(program, prices, cuts):
    """The least sum of prices of edges that are enough, found by trying all sets, None if there is none."""
    held = [price_of(prices, probes) for many in range(len(prices) + 1)
            for probes in itertools.combinations([edge for edge, price in prices], many) if is_enough(program,
                list(probes), cuts)]
    return min(held, default=None)


class Least(unittest.TestCase):
    """[33], [34]"""

    def priced(self, seed):
        dice = chance(seed)
        program = some_program(dice)
        held = dice.sample(edges(program), min(len(edges(program)), dice.randint(0, 7)))
        return dice, program, [(edge, dice.randint(0, 4)) for edge in held]

    def test_against_all_sets(self):
        for seed in range(80):
            dice, program, prices = self.priced(seed)
            for cuts in BOTH:
                best, found = cheapest(program, prices, cuts), least_probes(program, prices, cuts)
                self.assertIs(found is None, best is None)
                if found is not None:
                    self.assertIs(is_enough(program, found, cuts), True)
                    self.assertEqual(price_of(prices, found), best)
                    self.assertEqual(found, [edge for edge in edges(program) if edge in found])
                self.judged(dice, program, prices, best, cuts)

    def judged(self, dice, program, prices, best, cuts):
        for _ in range(6):
            held = dict(prices)
            probes = [edge for edge in edges(program) if edge in held and dice.random() < 0.7]
            enough = is_enough(program, probes, cuts)
            right = enough and price_of(prices, probes) == best
            self.assertIs(is_least(program, prices, probes, cuts), right)
            if not enough:
                with self.assertRaises(Unlike) as caught:
                    cheaper(program, prices, probes, cuts)
                self.assertIs(caught.exception.value, probes)
                continue
            dice.shuffle(probes)
            step = cheaper(program, prices, probes, cuts)
            self.assertIs(step is None, right)
            if step is not None:
                out, into = step
                self.assertIn(out, probes)
                self.assertTrue(into is None or (into in held and into not in probes))
                after = [probe for probe in probes if probe != out] + ([into] if into else [])
                self.assertIs(is_enough(program, after, cuts), True)
                self.assertLess(price_of(prices, after), price_of(prices, probes))

    def test_steps_come_to_the_cheapest(self):
        for seed in range(40):
            dice = chance(seed)
            program = some_program(dice)
            prices = [(edge, dice.randint(1, 9)) for edge in edges(program)][:20]
            for cuts in BOTH:
                probes = [edge for edge, price in prices]
                if is_enough(program, probes, cuts):
                    while (step := cheaper(program, prices, probes, cuts)) is not None:
                        probes = [probe for probe in probes if probe != step[0]] + ([step[1]] if step[1] else [])
                    self.assertEqual(price_of(prices, probes), price_of(prices, least_probes(program, prices, cuts)))

    def test_ties_and_prices_of_0(self):
        program = tried()
        prices = [(("main", "d", "value"), 0), (("main", "e", "return"), 0), (("f", "a", "yes"), 0),
            (("f", "a", "no"), 3), (("f", "c", "raise"), 3)]
        self.assertEqual(price_of(prices, least_probes(program, prices, True)), 3)
        for value, right in [
            ([("main", "d", "value"), ("f", "a", "no")], True), ([("main", "d", "value"), ("f", "c", "raise")], True),
            ([("main", "d", "value"), ("main", "e", "return"), ("f", "a", "yes"), ("f", "a", "no")], True),
            ([("f", "a", "no"), ("main", "d", "value")], False), ([("f", "a", "no"), ("f", "c", "raise")], False),
            ([("main", "d", "value"), ("f", "a", "no"), ("f", "c", "raise")], False),
            ([("main", "d", "value"), ("main", "d", "call")], False),
            ([("main", "d", "value"), ("main", "d", "value"), ("f", "a", "no")], False),
            ((("main", "d", "value"), ("f", "a", "no")), False), ([], False),
        ]:
            self.assertIs(is_least(program, prices, value, True), right, value)
        for value in odd_values():
            self.assertIs(is_least(program, prices, value, True), False)
        self.assertIsNone(cheaper(program, prices, [("main", "d", "value"), ("main", "e", "return"), ("f", "a", "no")],
            True))

    def test_all_together_are_not_enough(self):
        program = tried()
        for prices in [[], [(("main", "d", "call"), 1)], [(("f", "a", "no"), 1), (("f", "c", "raise"), 1)]]:
            for cuts in BOTH:
                self.assertIsNone(least_probes(program, prices, cuts))
                for value in [[], [edge for edge, price in prices]]:
                    self.assertIs(is_least(program, prices, value, cuts), False)

    def test_none_is_needed(self):
        self.assertEqual(least_probes(server(), [], False), [])
        self.assertIs(is_least(server(), [], [], False), True)
        prices = [(("serve", "top", "no"), 2), (("serve", "job", "go"), 0)]
        self.assertEqual(price_of(prices, least_probes(server(), prices, False)), 0)
        self.assertIs(is_least(server(), prices, [("serve", "job", "go")], False), True)
        self.assertEqual(cheaper(server(), prices, [("serve", "top", "no")], False), (("serve", "top", "no"), None))

    def test_what_is_no_list_of_prices(self):
        program, edge, other = tried(), ("main", "d", "call"), ("f", "a", "no")
        wrong = [(), [edge], [(edge,)], [(edge, 1, 1)], [[edge, 1]], [(edge, -1)], [(edge, 10 ** 9 + 1)],
            [(edge, True)], [(edge, None)], [(edge, "1")],
                 [(edge, 1), (edge, 1)], [(edge, 1), (other, 2), (edge, 3)], [(("main", "d", "go"), 1)],
                 [(list(edge), 1)], [(edge, 1), None],
                 {edge: 1}, [(edge, [1])], [(edge, 1), ((edge,), 2)]]
        for value in odd_values() + wrong:
            if value != []:
                for function, more in [(least_probes, ()), (is_least, (None,)), (cheaper, (None,))]:
                    with self.assertRaises(InvalidList) as caught:
                        function(program, value, *more, True)
                    self.assertIs(caught.exception.value, value)
        self.assertEqual(least_probes(program, [(edge, 10 ** 9), (other, 10 ** 9)], True), [edge, other])

    def test_probes_without_a_price(self):
        program = tried()
        prices = [(("main", "d", "call"), 5), (("f", "a", "no"), 3)]
        for value in odd_values() + [[("main", "d", "value")], [("main", "d", "call")] * 2,
            (("main", "d", "call"), ("f", "a", "no"))]:
            if value != []:
                with self.assertRaises(InvalidList) as caught:
                    cheaper(program, prices, value, True)
                self.assertIs(caught.exception.value, value)
        with self.assertRaises(Unlike) as caught:
            cheaper(program, prices, probes := [("f", "a", "no")], True)
        self.assertIs(caught.exception.value, probes)


class ToldBack(unittest.TestCase):
    """[35]"""

    def test_with_and_without_cuts(self):
        found = 0
        for seed in range(150):
            dice = chance(seed)
            program = some_program(dice)
            all_edges = edges(program)
            for cuts in BOTH:
                prices = [(edge, dice.randint(0, 9)) for edge in all_edges]
                probes = least_probes(program, prices, cuts)
                probes += [edge for edge in all_edges if edge not in probes and dice.random() < 0.2]
                dice.shuffle(probes)
                held = [some_way(program, dice, dice.randint(0, 30)) for _ in range(5)]
                held = [pair for pair in held if cuts or not pair[1]]
                numbers, waiting, standing = sums_of(program, all_edges, held)
                told = [numbers[all_edges.index(probe)] for probe in probes]
                self.assertEqual(told_back(program, probes, told, waiting, standing), numbers)
                found += len(held) > 0
        self.assertGreater(found, 200)

    def test_the_probes_may_be_enough_without_cuts_alone(self):
        program = server()
        self.assertEqual(told_back(program, [], [], [0, 0], [0, 0]), [0, 0, 0])
        with self.assertRaises(Unlike) as caught:
            told_back(program, probes := [], [], [0, 0], [1, 0])
        self.assertIs(caught.exception.value, probes)
        self.assertEqual(told_back(dead(), [("main", "c", "return")], [6], [0] * 7, [0] * 7),
            [0, 6, 0, 0, 0, 6, 0, 0, 0, 0, 0])

    def test_runs_that_were_cut_off_at_once(self):
        self.assertEqual(told_back(tried(), [("f", "a", "yes"), ("f", "a", "no")], [0, 0], [0] * 5, [3, 0, 0, 0, 0]),
            [0] * 8)

    def test_great_numbers(self):
        n = 10 ** 29
        self.assertEqual(told_back(tried(), [("main", "d", "value"), ("f", "a", "no")], [n, 2 * n], [0] * 5, [0] * 5),
            [3 * n, n, 2 * n, n, n, 2 * n, n, 2 * n])

    def refused(self, kind, value, *arguments):
        with self.assertRaises(kind) as caught:
            told_back(*arguments)
        self.assertIs(type(caught.exception), kind)
        self.assertIs(caught.exception.value, value)

    def test_errors_in_their_order(self):
        program, probes, zeros = tried(), [("main", "d", "value"), ("f", "a", "no")], [0] * 5
        for value in odd_values():
            self.refused(InvalidProgram, value, value, None, None, None, None)
            if value != []:
                self.refused(InvalidList, value, program, value, None, None, None)
            self.refused(InvalidList, value, program, probes, value, None, None)
            self.refused(InvalidList, value, program, probes, [1, 2], value, None)
            self.refused(InvalidList, value, program, probes, [1, 2], zeros, value)
        for value in [[1], [1, 2, 3], (1, 2), [1, -1], [1, True]]:
            self.refused(InvalidList, value, program, probes, value, None, None)
        for value in [[0] * 4, [0] * 6, (0,) * 5, [0, 0, 0, 0, -1], [0, 0, 0, 0, False]]:
            self.refused(InvalidList, value, program, probes, [1, 2], value, None)
            self.refused(InvalidList, value, program, probes, [1, 2], zeros, value)
        few = [("f", "a", "no")]
        twofold = few * 2
        self.refused(InvalidList, twofold, program, twofold, [1, 1], zeros, zeros)
        self.refused(Unlike, few, program, few, [1], [1, 1, 1, 1, 1], zeros)
        self.refused(Unlike, few, program, few, [1], zeros, zeros)

    def test_pauses_that_no_way_makes(self):
        program, probes = dead(), [edge for edge in edges(dead()) if edge != ("main", "u", "go")]
        numbers = [0] * len(probes)
        for at in range(7):
            counts = [0] * 7
            counts[at] = 1
            if at != 1:
                self.refused(Unlike, counts, program, probes, numbers, counts, [0, 0, 0, 1, 0, 0, 1])
            if at in (3, 6):
                self.refused(Unlike, counts, program, probes, numbers, [0] * 7, counts)
        standing = [0, 0, 0, 1, 0, 0, 0]
        self.refused(Unlike, standing, program, probes, numbers, [0, 1, 0, 0, 0, 0, 0], standing)
        self.assertEqual(told_back(program, edges(program), [0] * 11, [0] * 7, [1, 0, 0, 0, 0, 0, 0]), [0] * 11)


class Great(unittest.TestCase):
    """[3], [30] to [35]"""

    def test_within_seconds(self):
        begin = time.perf_counter()
        for seed, functions, blocks in [(1, 8, 5), (2, 4, 10), (3, 2, 20), (4, 1, 40), (5, 5, 8)]:
            program = great(chance(seed), functions, blocks)
            all_edges = edges(program)
            for cuts in BOTH:
                prices = [(edge, chance(k).randint(0, 10 ** 9)) for k, edge in enumerate(all_edges)]
                probes = least_probes(program, prices, cuts)
                self.assertEqual(len(probes), needed(program, cuts))
                self.assertIs(is_least(program, prices, probes, cuts), True)
                for edge in all_edges[::9]:
                    self.assertIs(is_paper(program, probes, edge, paper(program, probes, edge, cuts), cuts), True)
                if probes:
                    self.assertIsNone(paper(program, probes[1:], probes[0], cuts))
                    self.assertIs(is_parting(program, probes[1:], parted(program, probes[1:], cuts), cuts), True)
                few = [(edge, 5) for edge in probes] + [(edge, 4) for edge in all_edges if edge not in probes][:10]
                cheaper(program, few, probes, cuts)
            held = [some_way(program, chance(k), 400) for k in range(4)]
            numbers, waiting, standing = sums_of(program, all_edges, held)
            told = [numbers[all_edges.index(probe)] for probe in probes]
            self.assertEqual(told_back(program, probes, told, waiting, standing), numbers)
        self.assertLess(time.perf_counter() - begin, 30)

    def test_as_many_edges_as_may_be(self):
        labels = [f"b{k}" for k in range(40)]
        blocks = [(label, [], ("try", "x", "main", (), labels[(k + 1) % 40], "y", labels[(7 * k + 1) % 40])) for k,
            label in enumerate(labels)]
        begin = time.perf_counter()
        program = of_blocks(blocks)
        self.assertEqual([len(edges(program)), needed(program, False), needed(program, True)], [120, 0, 0])
        blocks[0] = ("b0", [], ("test", "x", "b38", "b1"))
        blocks[37:] = [("b37", [], ("raise", "x")), ("b38", [], END), ("b39", [], ("test", "x", "b38", "b37"))]
        program = of_blocks(blocks)
        for cuts in BOTH:
            prices = [(edge, chance(k).randint(0, 10 ** 9)) for k, edge in enumerate(edges(program))]
            probes = least_probes(program, prices, cuts)
            self.assertEqual([len(probes), needed(program, cuts)], [39, 39])
            self.assertIs(is_least(program, prices, probes, cuts), True)
            self.assertIs(is_parting(program, probes[:-1], parted(program, probes[:-1], cuts), cuts), True)
            for edge in edges(program)[::20]:
                self.assertIs(is_paper(program, probes, edge, paper(program, probes, edge, cuts), cuts), True)
        self.assertLess(time.perf_counter() - begin, 20)


class Refusals(unittest.TestCase):
    """[2], [30] to [34]"""

    calls = [(is_enough, (None,)), (paper, (None, None)), (is_paper, (None, None, None)), (parted, (None,)),
        (is_parting, (None, None)),
             (needed, ()), (least_probes, (None,)), (is_least, (None, None)), (cheaper, (None, None))]

    def test_programs_ahead_of_flags_ahead_of_the_rest(self):
        for value in odd_values() + [of_blocks([])]:
            for function, more in self.calls:
                with self.assertRaises(InvalidProgram) as caught:
                    function(value, *more, None)
                self.assertIs(caught.exception.value, value)
                if not isinstance(value, bool):
                    with self.assertRaises(InvalidFlag) as caught:
                        function(tried(), *more, value)
                    self.assertIs(caught.exception.value, value)

    def test_probes(self):
        edge = ("main", "d", "call")
        for value in odd_values() + [(edge,), [edge, edge], [("main", "d", "go")], [list(edge)], [edge, None], edge]:
            if value != []:
                for function, more in [(is_enough, ()), (paper, (None,)), (is_paper, (None, None)), (parted, ()),
                    (is_parting, (None,))]:
                    with self.assertRaises(InvalidList) as caught:
                        function(tried(), value, *more, True)
                    self.assertIs(caught.exception.value, value)

    def test_edges(self):
        for value in odd_values() + [("main", "d", "go"), ["main", "d", "call"], ("main", "d", "waits"),
            ("main", "d", ["call"])]:
            for function, more in [(paper, ()), (is_paper, (None,))]:
                with self.assertRaises(InvalidEdge) as caught:
                    function(tried(), [], value, *more, False)
                self.assertIs(caught.exception.value, value)

    def test_nothing_is_changed_and_all_lists_are_new(self):
        program, probes, edge = tried(), [("f", "a", "yes"), ("f", "a", "no")], ("main", "d", "call")
        prices = [(probe, 3) for probe in probes] + [(edge, 2)]
        held = (program, probes, prices)
        before = copy.deepcopy(held)
        is_enough(cuts=True, probes=probes, program=program)
        value = paper(cuts=True, edge=edge, probes=probes, program=program)
        self.assertEqual(len({id(part) for part in value}), 3)
        is_paper(cuts=True, value=value, edge=edge, probes=probes, program=program)
        self.assertEqual(value, paper(program, probes, edge, True))
        value[0].clear()
        two = parted(cuts=True, probes=[], program=program)
        is_parting(cuts=True, value=two, probes=[], program=program)
        self.assertEqual(two, parted(program, [], True))
        two[0].clear()
        needed(cuts=True, program=program)
        least = least_probes(cuts=True, prices=prices, program=program)
        is_least(cuts=True, value=least, prices=prices, program=program)
        self.assertEqual(least, least_probes(program, prices, True))
        least.clear()
        cheaper(cuts=True, probes=probes, prices=prices, program=program)
        told_back(standing=[0] * 5, waiting=[0] * 5, numbers=[1, 2], probes=probes, program=program).clear()
        self.assertEqual(held, before)
