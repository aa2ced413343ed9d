import copy
import time
import unittest

from fewprobes.alive import live, marks
from fewprobes.blocks import edges
from fewprobes.cover import needed_classes
from fewprobes.coverage import is_coverage
from fewprobes.errors import InvalidEdge, InvalidFlag, InvalidList, InvalidProfile, InvalidProgram, Unlike
from fewprobes.profiles import merged, recorded
from fewprobes.runs import trace
from fewprobes.seen import fitting, seen_back, seen_in
from makers import all_ways, chance, some_program, some_way
from samples import odd_values
from searching import Search, marks_had
from test_alive import BOTH, great, mutual, server, tried
from test_cover import is_pause, seen_of

ENDED, RAISED = ("main", "e", "return"), ("f", "c", "raise")


class Refusing(unittest.TestCase):
    def refuses(self, kind, value, function, *arguments):
        with self.assertRaises(kind) as caught:
            function(*arguments)
        self.assertIs(caught.exception.value, value)

    def test_programs_first(self):
        for value in odd_values() + [("program", [])]:
            self.refuses(InvalidProgram, value, seen_in, value, None, None)
            self.refuses(InvalidProgram, value, seen_back, value, None, None)
            self.refuses(InvalidProgram, value, fitting, value, None, None, None, None)

    def test_probes_behind_programs(self):
        program = tried()
        for value in odd_values() + [[ENDED, ENDED], (ENDED,), [ENDED, None], [("main", "d", "stands")],
                [list(ENDED)], {ENDED: True}]:
            if value != []:
                self.refuses(InvalidList, value, seen_in, program, value, None)
                self.refuses(InvalidList, value, seen_back, program, value, None)
                self.refuses(InvalidList, value, fitting, program, value, None, None, None)

    def test_what_is_seen_behind_probes(self):
        program = tried()
        for value in odd_values() + [[RAISED], [ENDED, ENDED], (ENDED,), [ENDED, RAISED], [("main", "e", "waits")],
                [("main", "d", "stands")] * 2, [list(ENDED)], [("main", "d", "cut")]]:
            if value != []:
                self.refuses(InvalidProfile, value, seen_back, program, [ENDED], value)
                self.refuses(InvalidProfile, value, fitting, program, [ENDED], value, None, None)

    def test_profiles_behind_probes(self):
        program = tried()
        right = recorded(program, [])
        for value in odd_values() + [right[:4], list(right), right[:2] + ([0] * 7,) + right[3:],
                right[:3] + ([True] * 5,) + right[4:]]:
            self.refuses(InvalidProfile, value, seen_in, program, [ENDED], value)

    def test_edges_then_flags_then_what_fits_nothing(self):
        program = tried()
        wrong = [("main", "e", "stands"), ENDED]
        unfit = [("main", "d", "waits")]
        for value in odd_values() + [("main", "d", "stands"), list(ENDED)]:
            self.refuses(InvalidEdge, value, fitting, program, [ENDED], unfit, value, None)
        for value in odd_values():
            if not isinstance(value, bool):
                self.refuses(InvalidFlag, value, fitting, program, [ENDED], unfit, ENDED, value)
        for value in [unfit, [("f", "a", "stands")], [("main", "d", "waits"), ENDED]]:
            self.refuses(Unlike, value, seen_back, program, [ENDED], value)
            for flag in BOTH:
                self.refuses(Unlike, value, fitting, program, [ENDED], value, ENDED, flag)
        self.assertEqual(len(seen_back(program, [ENDED], wrong)), 8)


class In(unittest.TestCase):
    """[43] seen_in"""

    def test_runs_that_end_and_that_are_cut_off(self):
        program = tried()
        probes = [RAISED, ENDED, ("main", "d", "call")]
        for inputs, most, found in [
            ([], 0, [("main", "d", "stands")]), ([5], 1, [("main", "d", "call"), ("main", "d", "waits"),
                ("f", "a", "stands")]),
            ([0], 2, [("main", "d", "call"), ("main", "d", "waits"), ("f", "c", "stands")]),
            ([0], 3, [("main", "d", "call"), RAISED, ("main", "d", "stands")]),
            ([0, 5], 99, [("main", "d", "call"), ENDED, RAISED]), ([5], 3, [("main", "d", "call"), ("main", "e",
                "stands")]),
        ]:
            profile = recorded(program, trace(program, [], inputs, most))
            self.assertEqual(seen_in(program, probes, profile), found)
            self.assertEqual(seen_in(program, probes[::-1], profile), found)
            self.assertEqual(seen_in(program, [], profile), [mark for mark in found if is_pause(mark)])
        profiles = [recorded(program, trace(program, [], inputs, most)) for inputs, most in [([0], 2), ([5], 99)]]
        self.assertEqual(seen_in(program, probes, merged(program, profiles)), [("main", "d", "call"), ENDED,
            ("main", "d", "waits"), ("f", "c", "stands")])
        self.assertEqual(seen_in(program, probes, merged(program, [])), [])

    def test_a_block_that_calls_nothing_has_no_waits_whatever_the_profile_says(self):
        program = tried()
        self.assertEqual(seen_in(program, edges(program), ("profile", 0, [0] * 8, [7] * 5, [0] * 5)),
            [("main", "d", "waits")])
        self.assertEqual(seen_in(program, edges(program), ("profile", 0, [0] * 8, [0, 1, 1, 1, 1], [1, 0, 0, 0, 2])),
            [("main", "d", "stands"), ("f", "c", "stands")])
        self.assertEqual(seen_in(program, [RAISED], ("profile", 3, [1] * 8, [0] * 5, [0] * 5)), [RAISED])

    def test_of_ways_made_by_chance(self):
        for seed in range(80):
            dice = chance(seed)
            program = some_program(dice)
            ways = [some_way(program, dice, 9) for _ in range(3)]
            probes = dice.sample(edges(program), dice.randint(0, len(edges(program))))
            covered = {mark for way, stack in ways for mark in marks_had(program, way, stack)}
            profile = merged(program, [recorded(program, way) for way, stack in ways])
            seen = seen_of(covered, probes)
            self.assertEqual(seen_in(program, probes, profile), [mark for mark in marks(program) if mark in seen])


class Back(unittest.TestCase):
    """[43] seen_back, fitting"""

    def check(self, program, probes, seen):
        """All answers for what is seen of some list; they are returned."""
        told = seen_back(program, probes, seen)
        for edge, word in zip(edges(program), told):
            found = {}
            for flag in BOTH:
                found[flag] = fitting(program, probes, seen, edge, flag)
                if found[flag] is not None:
                    self.assertIs(is_coverage(program, found[flag], True), True)
                    self.assertEqual(seen_of(found[flag], probes), set(seen))
                    self.assertIs(edge in found[flag], flag)
                    self.assertEqual(found[flag], [mark for mark in marks(program) if mark in found[flag]])
            right = "yes" if found[False] is None else "no" if found[True] is None else "open"
            self.assertEqual([word, found == {False: None, True: None}], [right, False])
        return told

    def test_of_the_example(self):
        program = tried()
        told = self.check(program, [ENDED, RAISED], [RAISED, ("main", "d", "stands")])
        self.assertEqual(told, ["yes", "no", "yes", "no", "no", "yes", "no", "yes"])
        told = self.check(program, [ENDED], [("main", "d", "stands")])
        self.assertEqual(told, ["open", "no", "open", "no", "no", "open", "no", "open"])
        self.assertEqual(fitting(program, [ENDED], [("main", "d", "stands")], ("f", "a", "no"), False),
            [("main", "d", "stands")])

    def test_nothing_seen(self):
        program = tried()
        self.assertEqual(self.check(program, [], []), ["open"] * 8)
        self.assertEqual(self.check(program, [ENDED], []), ["no"] * 8)
        self.assertEqual(fitting(program, [ENDED], [], RAISED, False), [])
        self.assertIsNone(fitting(program, [ENDED], [], RAISED, True))
        self.assertEqual(self.check(server(), [], []), ["no"] * 3)

    def test_edges_that_no_way_has(self):
        program = mutual()
        told = self.check(program, [], [("h", "a", "stands"), ("h", "a", "waits"), ("main", "c", "waits")])
        dead = [edge not in live(program, [], True) for edge in edges(program)]
        self.assertTrue(all(word == "no" for word, flag in zip(told, dead) if flag))
        self.assertEqual(told[:2], ["open", "yes"])

    def test_of_lists_of_ways_made_by_chance(self):
        words = []
        for seed in range(120):
            dice = chance(seed)
            program = some_program(dice, 3, 3)
            ways = [some_way(program, dice, 8) for _ in range(dice.choice([1, 1, 2, 3]))]
            covered = {mark for way, stack in ways for mark in marks_had(program, way, stack)}
            probes = dice.sample(edges(program), dice.randint(0, min(5, len(edges(program)))))
            seen = dice.sample(sorted(seen_of(covered, probes)), len(seen_of(covered, probes)))
            told = self.check(program, probes, seen)
            words.extend(told)
            for edge, word in zip(edges(program), told):
                self.assertIn(word, ["yes", "open"] if edge in covered else ["no", "open"])
            self.compare(program, probes, seen, told)
        self.assertGreater(min(words.count(word) for word in ["yes", "no", "open"]), 60)

    def compare(self, program, probes, seen, told):
        """The same by a plain search over stacks."""
        gone = [mark for mark in marks(program) if (mark in probes or is_pause(mark)) and mark not in seen]
        if len(Search(program, gone, True, 5).ahead) > 1500:
            return
        most = Search(program, gone, True, 5).live()
        for edge, word in zip(edges(program), told):
            less = Search(program, gone + [edge], True, 5).live()
            right = "no" if edge not in most else "open" if set(seen) <= set(less) else "yes"
            self.assertEqual(word, right)

    def test_unlike_exactly_if_no_list_fits(self):
        judged = []
        for seed in range(150):
            dice = chance(seed)
            program = some_program(dice, 3, 3)
            probes = dice.sample(edges(program), dice.randint(0, min(4, len(edges(program)))))
            rows = probes + [mark for mark in marks(program) if is_pause(mark)]
            seen = dice.sample(rows, dice.randint(0, min(4, len(rows))))
            gone = [mark for mark in rows if mark not in seen]
            if len(Search(program, gone, True, 5).ahead) > 1500:
                continue
            judged.append(set(seen) <= set(Search(program, gone, True, 5).live()))
            if judged[-1]:
                self.check(program, probes, seen)
                continue
            for function, more in [(seen_back, ()), (fitting, (edges(program)[0], True)), (fitting, (edges(program)[0],
                    False))]:
                with self.assertRaises(Unlike) as caught:
                    function(program, probes, seen, *more)
                self.assertIs(caught.exception.value, seen)
        self.assertGreater(judged.count(True), 40)
        self.assertGreater(judged.count(False), 40)

    def test_enough_probes_leave_nothing_open(self):
        for seed in range(80):
            dice = chance(seed)
            program = some_program(dice, 3, 3)
            probes = [dice.choice(group) for group in needed_classes(program, True)]
            for way, stack in all_ways(program, 6, 60)[::7]:
                had = marks_had(program, way, stack)
                told = self.check(program, probes, [mark for mark in had if mark in seen_of(had, probes)])
                self.assertEqual(told, ["yes" if edge in had else "no" for edge in edges(program)])


class Plainness(unittest.TestCase):
    """[2], [3]"""

    def test_nothing_is_changed_and_all_is_new(self):
        program, probes, seen = tried(), [RAISED, ENDED], [("main", "d", "stands"), RAISED]
        profile = ("profile", 1, [1] * 8, [1] * 5, [1] * 5)
        before = copy.deepcopy([program, probes, seen, profile])
        for call in [lambda: seen_in(program, probes, profile), lambda: seen_back(program, probes, seen),
                lambda: fitting(program, probes, seen, RAISED, True), lambda: fitting(program, probes, seen, ENDED,
                    False)]:
            first = call()
            kept = list(first)
            first.clear()
            self.assertEqual(call(), kept)
        self.assertEqual([program, probes, seen, profile], before)

    def test_arguments_by_their_names(self):
        program = tried()
        profile = recorded(program, [])
        self.assertEqual(seen_in(program=program, probes=[], profile=profile), [("main", "d", "stands")])
        self.assertEqual(seen_back(program=program, probes=[ENDED], seen=[]), ["no"] * 8)
        self.assertIsNone(fitting(program=program, probes=[ENDED], seen=[], edge=ENDED, flag=True))

    def test_great_programs_within_seconds(self):
        begin = time.perf_counter()
        program = great()
        probes = edges(program)[::3]
        seen = [mark for mark in live(program, [], True) if mark in probes or is_pause(mark)]
        self.assertEqual(len(self.told(program, probes, seen)), len(edges(program)))
        self.assertLess(time.perf_counter() - begin, 20)

    def told(self, program, probes, seen):
        for edge in edges(program)[::5]:
            most = fitting(program, probes, seen, edge, True)
            self.assertIs(most is None, edge not in live(program, [], True))
        return seen_back(program, probes, seen)
