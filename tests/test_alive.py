import copy
import time
import unittest

from fewprobes.alive import live, marks, shortest_way
from fewprobes.blocks import edges
from fewprobes.errors import InvalidEdge, InvalidFlag, InvalidList, InvalidProgram, TooMany
from fewprobes.through import is_way, live_edges, stack_behind
from makers import chance, some_program
from samples import full_program, odd_values, of_blocks
from searching import Search, all_marks, marks_had

END = ("return", "x")
BOTH = [False, True]


def tried():
    """The program of the document's example: main tries f, which ends by a value or by a fault."""
    return ("program", [
        ("main", [], [("d", [("read", "x")], ("try", "y", "f", ("x",), "e", "z", "d")), ("e", [], ("return", "y"))]),
        ("f", ["n"], [("a", [], ("test", "n", "b", "c")), ("b", [], ("return", "n")), ("c", [], ("raise", "n"))]),
    ])


def server():
    """A program that never ends."""
    return of_blocks([("top", [], ("test", "x", "job", "top")), ("job", [], ("go", "top"))], "serve")


def mutual():
    """f and g call each other; f ends by a value alone, g by a fault alone, h never, and u is called by nothing."""
    return ("program", [
        ("main", [], [("a", [], ("test", "x", "b", "c")), ("b", [], ("try", "x", "f", (), "d", "x", "a")),
            ("c", [], ("call", "x", "h", (), "d")), ("d", [], END)]),
        ("f", [], [("a", [], ("test", "x", "b", "c")), ("b", [], ("try", "x", "g", (), "a", "y", "c")), ("c", [], END)]),
        ("g", [], [("a", [], ("test", "x", "b", "c")), ("b", [], ("call", "x", "f", (), "a")),
            ("c", [], ("raise", "x"))]),
        ("h", [], [("a", [], ("call", "x", "h", (), "a"))]),
        ("u", [], [("a", [], END)]),
    ])


def named_alike():
    """Labels and functions that have the names of ways, functions and labels."""
    return ("program", [
        ("go", [], [("yes", [], ("test", "x", "no", "go")), ("no", [], ("call", "x", "waits", (), "go")),
            ("go", [], ("return", "x"))]),
        ("waits", [], [("stands", [], ("test", "x", "waits", "value")), ("waits", [], ("go", "stands")),
            ("value", [], ("raise", "x"))]),
    ])


def chained(calls, gos):
    """Functions that call the next one so often each, one call behind the other, and go on so often before."""
    made = []
    for k, (many, more) in enumerate(zip(calls + [0], gos)):
        labels = [f"b{j}" for j in range(many + more + 1)]
        held = []
        for label, behind in zip(labels, labels[1:]):
            end = ("go", behind) if len(held) < more else ("call", "x", f"f{k + 1}", (), behind)
            held.append((label, [], end))
        made.append((f"f{k}", [], held + [(labels[-1], [], END)]))
    return ("program", made)


def length_of(calls, gos):
    """How many edges the whole ways of such a program have."""
    found = 0
    for many, more in list(zip(calls + [0], gos))[::-1]:
        found = many * (2 + found) + more + 1
    return found


def great():
    """40 blocks, 120 edges: each function tries the next one, and all can end."""
    return ("program", [(f"f{k}", [], [(f"b{j}", [], ("try", "x", f"f{(k + j) % 7}", (), f"b{(j + 1) % 5}", "y",
        f"b{(j + 2) % 5}")) for j in range(5)]) for k in range(7)] + [("f7", [], [
            ("b0", [], ("test", "x", "b1", "b2")), ("b1", [], END), ("b2", [], ("raise", "x")),
            ("b3", [], ("test", "x", "b4", "b3")), ("b4", [], ("test", "x", "b0", "b3"))])])


class Refusing(unittest.TestCase):
    """Which errors are raised, in which order, with what."""

    def refuses(self, kind, value, function, *arguments):
        with self.assertRaises(kind) as caught:
            function(*arguments)
        self.assertIs(caught.exception.value, value)

    def test_programs_first(self):
        for value in odd_values() + [("program", [])]:
            self.refuses(InvalidProgram, value, marks, value)
            self.refuses(InvalidProgram, value, live, value, None, None)
            self.refuses(InvalidProgram, value, shortest_way, value, None, None, None)

    def test_marks_behind_programs(self):
        program = tried()
        for value in odd_values() + [("main", "d", "stand"), ["main", "d", "call"], ("main", "e", "waits"),
                ("main", "d"), ("main", "d", "call", "call"), ("f", "d", "stands"), ("main", "d", "cut")]:
            self.refuses(InvalidEdge, value, shortest_way, program, value, None, None)

    def test_sets_behind_marks(self):
        program, mark = tried(), ("main", "d", "call")
        for value in odd_values() + [[mark, mark], [["main", "d", "call"]], (mark,), [mark, None],
                [("main", "e", "waits")], [("main", "d", "stands")] * 2, {mark: 1}]:
            if value != []:
                self.refuses(InvalidList, value, live, program, value, None)
                self.refuses(InvalidList, value, shortest_way, program, mark, value, None)

    def test_flags_last(self):
        program, mark = tried(), ("main", "d", "call")
        for value in odd_values():
            if not isinstance(value, bool):
                self.refuses(InvalidFlag, value, live, program, [mark], value)
                self.refuses(InvalidFlag, value, shortest_way, program, mark, [], value)
        calls, gos = [6, 6, 4, 5, 4], [2, 0, 0, 0, 0, 3]
        self.refuses(InvalidFlag, 1, shortest_way, chained(calls, gos), ("f0", "b0", "go"), [], 1)


class Marking(unittest.TestCase):
    """[36]"""

    def test_edges_then_pauses_block_by_block(self):
        program = full_program()
        self.assertEqual(marks(program), edges(program) + [
            ("main", "top", "stands"), ("main", "job", "waits"), ("main", "job", "stands"),
            ("main", "hold", "waits"), ("main", "hold", "stands"), ("main", "bad", "stands"),
            ("main", "skip", "stands"), ("main", "done", "stands"), ("f", "top", "stands"),
        ])

    def test_of_programs_made_by_chance(self):
        for seed in range(60):
            program = some_program(chance(seed))
            self.assertEqual(marks(program), all_marks(program))

    def test_sets_come_in_any_order_and_go_in_the_order_of_marks(self):
        program = mutual()
        rows = marks(program)
        dice = chance(3)
        for _ in range(30):
            gone = dice.sample(rows, dice.randint(0, 4))
            found = live(program, gone, True)
            self.assertEqual(found, [mark for mark in rows if mark in found])
            self.assertEqual(found, live(program, gone[::-1], True))
            self.assertFalse(set(found) & set(gone))


class Live(unittest.TestCase):
    """[37] live"""

    def test_of_the_example(self):
        program = tried()
        self.assertEqual(live(program, [], True), marks(program))
        self.assertEqual(live(program, [], False), edges(program))
        self.assertEqual(live(program, [("f", "a", "yes")], False), [])
        self.assertEqual(live(program, [("f", "a", "no")], False), [("main", "d", "call"), ("main", "d", "value"),
            ("main", "e", "return"), ("f", "a", "yes"), ("f", "b", "return")])
        self.assertEqual(live(program, [("main", "d", "call")], True), [("main", "d", "stands")])
        self.assertEqual(live(program, [("main", "d", "call"), ("main", "d", "stands")], True), [])
        self.assertEqual(live(program, [("main", "d", "waits")], True), [("main", "d", "call"), ("main", "d", "value"),
            ("main", "d", "fault"), ("main", "e", "return"), ("f", "a", "yes"), ("f", "a", "no"), ("f", "b", "return"),
            ("f", "c", "raise"), ("main", "d", "stands"), ("main", "e", "stands")])

    def test_pauses_that_are_gone_leave_ends_alone(self):
        program = tried()
        gone = [mark for mark in marks(program) if mark[2] == "stands"]
        self.assertEqual(live(program, gone, True), edges(program))
        self.assertEqual(live(program, gone, True), live(program, gone, False))

    def test_programs_that_never_end(self):
        program = server()
        self.assertEqual(live(program, [], False), [])
        self.assertEqual(live(program, [], True), marks(program))
        self.assertEqual(live(program, [("serve", "top", "stands")], True), [("serve", "top", "yes"),
            ("serve", "top", "no"), ("serve", "job", "go"), ("serve", "job", "stands")])
        self.assertEqual(live(program, [("serve", "top", "stands"), ("serve", "top", "yes")], True), [])

    def test_functions_that_end_by_one_leaving_alone(self):
        program = mutual()
        found = live(program, [], True)
        for mark in [("main", "b", "fault"), ("f", "b", "value"), ("g", "b", "fault"), ("h", "a", "value"),
                ("main", "c", "value"), ("u", "a", "return"), ("u", "a", "stands"), ("h", "a", "fault")]:
            self.assertNotIn(mark, found)
        self.assertEqual(len(found), len(marks(program)) - 9)
        self.assertEqual([mark for mark in live(program, [], False) if mark[0] in ("h", "u")], [])
        self.assertNotIn(("main", "d", "return"), live(program, [("main", "b", "value")], True))
        self.assertIn(("h", "a", "waits"), live(program, [("main", "b", "call")], True))

    def test_calls_and_what_is_in_called_functions(self):
        program = mutual()
        self.assertEqual(live(program, [("f", "c", "return"), ("main", "c", "call")], False), [])
        self.assertNotIn(("f", "b", "fault"), live(program, [("g", "c", "raise")], True))
        self.assertIn(("f", "b", "waits"), live(program, [("g", "c", "raise")], True))
        self.assertNotIn(("g", "a", "stands"), live(program, [("f", "b", "waits")], True))
        self.assertIn(("g", "a", "yes"), live(program, [("f", "b", "waits")], True))

    def test_words_that_mean_other_things_too(self):
        program = named_alike()
        self.assertEqual(live(program, [], True), [mark for mark in marks(program) if mark != ("go", "no", "value")])
        self.assertEqual(live(program, [("waits", "stands", "stands"), ("waits", "stands", "no")], True), [
            ("go", "yes", "yes"), ("go", "yes", "no"), ("go", "no", "call"), ("go", "go", "return"),
            ("waits", "stands", "yes"), ("waits", "waits", "go"), ("go", "yes", "stands"), ("go", "no", "waits"),
            ("go", "no", "stands"), ("go", "go", "stands"), ("waits", "waits", "stands"),
        ])

    def test_as_live_edges_has_it(self):
        for seed in range(100):
            program = some_program(chance(seed))
            self.assertEqual(live(program, [], False), live_edges(program))


class Shortest(unittest.TestCase):
    """[37] shortest_way"""

    def test_of_the_example(self):
        program = tried()
        self.assertEqual(shortest_way(program, ("main", "d", "stands"), [], True), [])
        self.assertEqual(shortest_way(program, ("main", "d", "waits"), [], True), [("main", "d", "call")])
        self.assertEqual(shortest_way(program, ("f", "b", "stands"), [], True), [("main", "d", "call"),
            ("f", "a", "yes")])
        self.assertEqual(len(shortest_way(program, ("f", "c", "raise"), [], False)), 9)
        self.assertIsNone(shortest_way(program, ("f", "c", "raise"), [("main", "e", "return")], False))
        self.assertIsNone(shortest_way(program, ("f", "c", "raise"), [("f", "c", "raise")], True))
        self.assertIsNone(shortest_way(program, ("main", "d", "stands"), [], False))

    def test_against_a_plain_search(self):
        judged = {True: 0, False: 0}
        for seed in range(150):
            dice = chance(seed)
            program = some_program(dice, 3, 3)
            for cuts in BOTH:
                self.compare(program, dice, cuts, judged)
        self.assertGreater(min(judged.values()), 1000)

    def compare(self, program, dice, cuts, judged):
        rows = marks(program)
        for many in [0, 1, 3]:
            gone = dice.sample(rows, min(many, len(rows)))
            search = Search(program, gone, cuts, 5)
            if len(search.ahead) > 2000:
                continue
            lengths = search.lengths()
            self.assertEqual(live(program, gone, cuts), [mark for mark in rows if mark in lengths])
            for mark in rows:
                way = shortest_way(program, mark, gone, cuts)
                judged[way is None] += 1
                self.assertEqual(None if way is None else len(way), lengths.get(mark))
                if way is not None:
                    had = marks_had(program, way, stack_behind(program, way))
                    self.assertIn(mark, had)
                    self.assertFalse(set(gone) & set(had))
                    self.assertTrue(cuts or not stack_behind(program, way))

    def test_twenty_thousand_edges_and_one_more(self):
        calls = [6, 6, 4, 5, 4]
        for gos, many in [([1, 0, 0, 0, 0, 3], 20000), ([2, 0, 0, 0, 0, 3], 20001)]:
            program = chained(calls, gos)
            self.assertEqual(length_of(calls, gos), many)
            for mark in [("f0", "b0", "go"), ("f5", "b3", "return")]:
                if many == 20000:
                    way = shortest_way(program, mark, [], False)
                    self.assertEqual(len(way), many)
                    self.assertEqual(stack_behind(program, way), [])
                else:
                    with self.assertRaises(TooMany) as caught:
                        shortest_way(program, mark, [], False)
                    self.assertEqual(caught.exception.value, many)
            self.assertEqual(len(shortest_way(program, ("f5", "b0", "stands"), [], True)), sum(gos[:5]) + 5)

    def test_ways_that_are_very_much_longer_within_seconds(self):
        calls, gos = [4] * 7, [1, 0, 0, 0, 0, 0, 0, 4]
        begin = time.perf_counter()
        for mark, cuts in [(("f7", "b0", "go"), False), (("f0", "b5", "return"), True), (("f0", "b5", "stands"), True)]:
            with self.assertRaises(TooMany) as caught:
                shortest_way(chained(calls, gos), mark, [], cuts)
            self.assertEqual(caught.exception.value, length_of(calls, gos) - (mark[2] == "stands"))
        way = shortest_way(chained(calls, gos), ("f7", "b4", "return"), [], True)
        self.assertEqual(len(way), 1 + 7 + 4 + 2)
        self.assertLess(time.perf_counter() - begin, 5)

    def test_great_programs_within_seconds(self):
        begin = time.perf_counter()
        program = great()
        self.assertEqual([len(edges(program)), len(marks(program))], [113, 113 + 35 + 40])
        for cuts in BOTH:
            found = live(program, [("f7", "b1", "return")], cuts)
            for mark in marks(program):
                way = shortest_way(program, mark, [("f7", "b1", "return")], cuts)
                self.assertIs(mark in found, way is not None)
        self.assertLess(time.perf_counter() - begin, 20)


class Plainness(unittest.TestCase):
    """[2]"""

    def test_nothing_is_changed_and_all_is_new(self):
        program, gone = mutual(), [("f", "b", "waits"), ("f", "a", "yes")]
        before = copy.deepcopy([program, gone])
        for call in [lambda: marks(program), lambda: live(program, gone, True),
                lambda: shortest_way(program, ("main", "d", "return"), gone, True)]:
            first = call()
            kept = list(first)
            self.assertTrue(all(type(mark) is tuple for mark in first))
            first.clear()
            self.assertEqual(call(), kept)
            self.assertTrue(kept)
        self.assertEqual([program, gone], before)

    def test_arguments_by_their_names(self):
        program = tried()
        self.assertEqual(marks(program=program), marks(program))
        self.assertEqual(live(program=program, gone=[], cuts=True), live(program, [], True))
        way = shortest_way(program=program, mark=("f", "c", "raise"), gone=[], cuts=True)
        self.assertTrue(is_way(program, way))
