import copy
import time
import unittest

from fewprobes.alive import live, marks, shortest_way
from fewprobes.balance import drawn_up, full_tally
from fewprobes.blocks import edges
from fewprobes.coverage import implied, is_coverage, ways_over
from fewprobes.errors import InvalidEdge, InvalidFlag, InvalidList, InvalidProfile, InvalidProgram, TooMany
from fewprobes.through import is_way, stack_behind
from makers import all_ways, chance, some_program, some_way
from samples import odd_values, swapped
from searching import Search, marks_had
from test_alive import BOTH, chained, great, length_of, mutual, server, tried


def covered_by(program, ways):
    """The coverage of ways, each with the stack behind it."""
    had = {mark for way, stack in ways for mark in marks_had(program, way, stack)}
    return [mark for mark in marks(program) if mark in had]


class Refusing(unittest.TestCase):
    def refuses(self, kind, value, function, *arguments):
        with self.assertRaises(kind) as caught:
            function(*arguments)
        self.assertIs(caught.exception.value, value)

    def test_programs_first(self):
        for value in odd_values() + [("program", [])]:
            self.refuses(InvalidProgram, value, is_coverage, value, None, None)
            self.refuses(InvalidProgram, value, ways_over, value, None, None)
            self.refuses(InvalidProgram, value, implied, value, None, None)

    def test_sets_and_marks_then_flags(self):
        program, mark = tried(), ("main", "d", "call")
        for value in odd_values() + [[mark, mark], (mark,), [mark, None], [("main", "e", "waits")], [list(mark)]]:
            if value != []:
                self.refuses(InvalidList, value, ways_over, program, value, None)
        for value in odd_values() + [("main", "e", "waits"), list(mark), [mark], ("main", "d", "cut")]:
            self.refuses(InvalidEdge, value, implied, program, value, None)
        for value in odd_values():
            if not isinstance(value, bool):
                self.refuses(InvalidFlag, value, ways_over, program, [mark], value)
                self.refuses(InvalidFlag, value, implied, program, mark, value)
                self.refuses(InvalidFlag, value, is_coverage, program, None, value)

    def test_what_is_no_coverage_behind_the_flag(self):
        program = tried()
        for value in [[("main", "d", "call")], [("main", "d", "waits"), ("main", "d", "stands")],
                live(program, [], False)[1:], live(program, [], True)[1:]]:
            self.refuses(InvalidProfile, value, ways_over, program, value, True)
            self.refuses(InvalidProfile, value, ways_over, program, value, False)
        value = [("main", "d", "stands")]
        self.refuses(InvalidProfile, value, ways_over, program, value, False)


class Judging(unittest.TestCase):
    """[38] is_coverage"""

    def test_the_empty_set(self):
        for program in [tried(), server(), mutual()]:
            for cuts in BOTH:
                self.assertIs(is_coverage(program, [], cuts), True)
                self.assertEqual(ways_over(program, [], cuts), [])

    def test_of_the_example(self):
        program = tried()
        self.assertIs(is_coverage(program, [("main", "d", "stands")], True), True)
        self.assertIs(is_coverage(program, [("main", "d", "stands")], False), False)
        self.assertIs(is_coverage(program, edges(program), False), True)
        self.assertIs(is_coverage(program, edges(program)[::-1], True), True)
        self.assertIs(is_coverage(program, [("main", "d", "waits"), ("main", "d", "call"), ("f", "a", "stands")], True),
            True)
        self.assertIs(is_coverage(program, [("main", "d", "waits"), ("main", "d", "call")], True), False)

    def test_what_is_no_set_of_marks(self):
        program = tried()
        for value in odd_values() + [tuple(edges(program)), edges(program) + edges(program)[:1],
                [list(edge) for edge in edges(program)], edges(program) + [("main", "e", "waits")],
                edges(program) + [None], [edges(program)], {mark: True for mark in edges(program)}]:
            for cuts in BOTH:
                self.assertIs(is_coverage(program, value, cuts), value == [], value)

    def test_drawn_ways_and_marks_taken_out_or_put_in(self):
        judged = []
        for seed in range(60):
            dice = chance(seed)
            program = some_program(dice, 3, 3)
            rows = marks(program)
            for cuts in BOTH:
                ways = [pair for pair in [some_way(program, dice, 6) for _ in range(3)] if cuts or not pair[1]]
                found = covered_by(program, ways)
                self.assertIs(is_coverage(program, dice.sample(found, len(found)), cuts), True)
                for mark in rows:
                    other = [each for each in found if each != mark] if mark in found else found + [mark]
                    judged.append(is_coverage(program, other, cuts))
                    search = Search(program, [each for each in rows if each not in other], cuts, 5)
                    self.assertIs(judged[-1], set(search.live()) == set(other))
        self.assertGreater(judged.count(True), 80)
        self.assertGreater(judged.count(False), 500)


class Over(unittest.TestCase):
    """[38] ways_over"""

    def check(self, program, covered, cuts):
        before = copy.deepcopy([program, covered])
        ways = ways_over(program, covered, cuts)
        self.assertEqual([program, covered], before)
        self.assertLessEqual(len(ways), len(covered))
        self.assertEqual(len({id(way) for way in ways}), len(ways))
        for way in ways:
            self.assertTrue(is_way(program, way))
            self.assertTrue(cuts or not stack_behind(program, way))
        found = covered_by(program, [(way, stack_behind(program, way)) for way in ways])
        self.assertEqual(set(found), set(covered))

    def test_all_that_is_alive(self):
        for program in [tried(), server(), mutual(), great()]:
            for cuts in BOTH:
                self.check(program, live(program, [], cuts), cuts)
                self.check(program, live(program, [], cuts)[::-1], cuts)

    def test_what_is_alive_without_some(self):
        for seed in range(150):
            dice = chance(seed)
            program = some_program(dice)
            for cuts in BOTH:
                for many in [1, 2, 5]:
                    gone = dice.sample(marks(program), min(many, len(marks(program))))
                    found = live(program, gone, cuts)
                    self.assertIs(is_coverage(program, found, cuts), True)
                    self.check(program, dice.sample(found, len(found)), cuts)

    def test_of_drawn_up_ways(self):
        program = tried()
        for cuts in BOTH:
            ways = drawn_up(program, full_tally(program, cuts), cuts)
            self.check(program, covered_by(program, [(way, stack_behind(program, way)) for way in ways]), cuts)

    def test_twenty_thousand_edges_and_one_more(self):
        calls = [6, 6, 4, 5, 4]
        for gos, many in [([1, 0, 0, 0, 0, 3], 20000), ([2, 0, 0, 0, 0, 3], 20001)]:
            program = chained(calls, gos)
            covered = live(program, [], False)
            if many == 20000:
                self.check(program, covered, False)
                self.check(program, covered, True)
                continue
            for cuts in BOTH:
                with self.assertRaises(TooMany) as caught:
                    ways_over(program, covered[::-1], cuts)
                self.assertEqual(caught.exception.value, many)

    def test_too_many_for_the_first_such_mark_in_the_order_of_marks(self):
        calls, gos = [4] * 7, [1, 0, 0, 0, 0, 0, 0, 4]
        program = chained(calls, gos)
        for covered in [live(program, [], True), live(program, [], True)[::-1]]:
            lengths = []
            for mark in marks(program):
                try:
                    lengths.append(len(shortest_way(program, mark, [], True) or []))
                except TooMany as wrong:
                    lengths.append(wrong.value)
            with self.assertRaises(TooMany) as caught:
                ways_over(program, covered, True)
            self.assertEqual(caught.exception.value, [length for length in lengths if length > 20000][0])
            self.assertLess(caught.exception.value, max(lengths))
        self.assertEqual(max(lengths), length_of(calls, gos))

    def test_only_marks_of_the_set_make_ways_long(self):
        # Either a way past the chain is in the set, or each way has to go through it.
        name, parameters, blocks = chained([6, 6, 4, 5, 4], [2, 0, 0, 0, 0, 3])[1][0]
        blocks = [("top", [], ("test", "x", "b0", "side")), ("side", [], ("return", "x"))] + blocks
        program = ("program", [(name, parameters, blocks)] + chained([6, 6, 4, 5, 4], [2, 0, 0, 0, 0, 3])[1][1:])
        short = [("f0", "top", "no"), ("f0", "side", "return")]
        self.assertEqual(ways_over(program, short, False), [short])
        with self.assertRaises(TooMany) as caught:
            ways_over(program, live(program, short, False), False)
        self.assertEqual(caught.exception.value, 20002)


class Implied(unittest.TestCase):
    """[39]"""

    def test_of_the_example(self):
        program = tried()
        self.assertEqual(implied(program, ("main", "e", "stands"), True), [("main", "d", "call"),
            ("main", "d", "value"), ("f", "a", "yes"), ("f", "b", "return"), ("main", "e", "stands")])
        self.assertEqual(implied(program, ("main", "d", "stands"), True), [("main", "d", "stands")])
        self.assertEqual(implied(program, ("main", "d", "stands"), False), marks(program))
        self.assertEqual(implied(program, ("f", "c", "raise"), False), edges(program))
        self.assertEqual(implied(program, ("f", "c", "raise"), True), [("main", "d", "call"), ("main", "d", "fault"),
            ("f", "a", "no"), ("f", "c", "raise")])

    def test_marks_that_no_way_has_imply_all(self):
        program = mutual()
        for cuts in BOTH:
            for mark in marks(program):
                if mark not in live(program, [], cuts):
                    self.assertEqual(implied(program, mark, cuts), marks(program))

    def test_against_a_plain_search(self):
        for seed in range(60):
            program = some_program(chance(seed), 3, 3)
            for cuts in BOTH:
                if len(Search(program, [], cuts, 5).ahead) > 2000:
                    continue
                left = {mark: Search(program, [mark], cuts, 5).live() for mark in marks(program)}
                for mark in marks(program):
                    found = implied(program, mark, cuts)
                    self.assertIn(mark, found)
                    self.assertEqual(found, [other for other in marks(program) if mark not in left[other]])

    def test_no_way_has_one_without_the_other(self):
        for seed in range(200, 240):
            program = some_program(chance(seed))
            for cuts in BOTH:
                found = {mark: set(implied(program, mark, cuts)) for mark in marks(program)}
                for way, stack in all_ways(program, 9, 500):
                    if cuts or not stack:
                        had = marks_had(program, way, stack)
                        for mark in had:
                            self.assertLessEqual(found[mark], set(had))

    def test_however_long_ways_are(self):
        program = chained([4] * 7, [1, 0, 0, 0, 0, 0, 0, 4])
        alive = [edge for edge in edges(program) if edge[2] != "fault"]
        self.assertEqual(implied(program, ("f7", "b0", "go"), False), alive)
        alive.remove(("f0", "b5", "return"))
        self.assertEqual(implied(program, ("f0", "b5", "stands"), True), alive + [("f0", "b5", "stands")])


class Plainness(unittest.TestCase):
    """[2], [3]"""

    def test_nothing_is_changed_and_all_is_new(self):
        program, covered = tried(), live(tried(), [], True)
        before = copy.deepcopy([program, covered])
        for call in [lambda: implied(program, covered[0], True), lambda: ways_over(program, covered, True)]:
            first = call()
            kept = copy.deepcopy(first)
            for way in first:
                if isinstance(way, list):
                    way.clear()
            first.clear()
            self.assertEqual(call(), kept)
        self.assertEqual([program, covered], before)
        self.assertIs(is_coverage(program, swapped(covered), True), False)

    def test_arguments_by_their_names(self):
        program = tried()
        self.assertIs(is_coverage(program=program, value=[], cuts=True), True)
        self.assertEqual(ways_over(program=program, covered=[("main", "d", "stands")], cuts=True), [[]])
        self.assertEqual(implied(program=program, mark=("main", "d", "call"), cuts=True), [("main", "d", "call")])

    def test_great_programs_within_seconds(self):
        begin = time.perf_counter()
        program = great()
        for cuts in BOTH:
            for mark in marks(program)[::9]:
                self.assertIn(mark, implied(program, mark, cuts))
            self.assertIs(is_coverage(program, live(program, [("f7", "b2", "raise")], cuts), cuts), True)
        self.assertLess(time.perf_counter() - begin, 20)
