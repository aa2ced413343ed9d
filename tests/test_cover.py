import copy
import itertools
import time
import unittest

from fewprobes.alive import live, marks
from fewprobes.blocks import edges
from fewprobes.cover import classes, is_shown, least_cover, needed_classes, shows_all, unshown
from fewprobes.coverage import implied, is_coverage
from fewprobes.errors import InvalidEdge, InvalidFlag, InvalidList, InvalidProgram
from fewprobes.probes import is_enough
from fewprobes.through import live_edges
from makers import all_ways, chance, some_program
from samples import odd_values
from searching import Search, marks_had
from test_alive import BOTH, great, mutual, server, tried


def is_pause(mark):
    return mark[2] in ("waits", "stands")


def seen_of(covered, probes):
    return {mark for mark in covered if is_pause(mark) or mark in probes}


class Refusing(unittest.TestCase):
    def refuses(self, kind, value, function, *arguments):
        with self.assertRaises(kind) as caught:
            function(*arguments)
        self.assertIs(caught.exception.value, value)

    def test_programs_first(self):
        for value in odd_values() + [("program", [])]:
            for function in [is_shown, unshown]:
                self.refuses(InvalidProgram, value, function, value, None, None, None)
            for function in [shows_all, least_cover]:
                self.refuses(InvalidProgram, value, function, value, None, None)
            for function in [classes, needed_classes]:
                self.refuses(InvalidProgram, value, function, value, None)

    def test_probes_behind_programs(self):
        program, edge = tried(), ("main", "d", "call")
        for value in odd_values() + [[edge, edge], (edge,), [edge, None], [("main", "d", "stands")],
                [("main", "d", "waits")], [list(edge)], {edge: True}]:
            if value != []:
                self.refuses(InvalidList, value, is_shown, program, value, None, None)
                self.refuses(InvalidList, value, unshown, program, value, None, None)
                self.refuses(InvalidList, value, shows_all, program, value, None)

    def test_edges_behind_probes(self):
        program = tried()
        for value in odd_values() + [("main", "d", "stands"), ("main", "d", "waits"), ["main", "d", "call"]]:
            self.refuses(InvalidEdge, value, is_shown, program, [], value, None)
            self.refuses(InvalidEdge, value, unshown, program, [], value, None)

    def test_prices_behind_programs(self):
        program, edge = tried(), ("main", "d", "call")
        for value in odd_values() + [[edge], [(edge, 1), (edge, 2)], [(edge, -1)], [(edge, True)], [(edge, "1")],
                [(edge, 10 ** 9 + 1)], [[edge, 1]], ((edge, 1),), [(edge, 1, 1)], [(("main", "d", "stands"), 1)],
                [(list(edge), 1)], {edge: 1}]:
            if value != []:
                self.refuses(InvalidList, value, least_cover, program, value, None)

    def test_flags_last(self):
        program, edge = tried(), ("main", "d", "call")
        for value in odd_values():
            if not isinstance(value, bool):
                self.refuses(InvalidFlag, value, is_shown, program, [edge], edge, value)
                self.refuses(InvalidFlag, value, unshown, program, [edge], edge, value)
                self.refuses(InvalidFlag, value, shows_all, program, [edge], value)
                self.refuses(InvalidFlag, value, least_cover, program, [(edge, 10 ** 9)], value)
                self.refuses(InvalidFlag, value, classes, program, value)
                self.refuses(InvalidFlag, value, needed_classes, program, value)


class Shown(unittest.TestCase):
    """[40]"""

    def check(self, program, probes, cuts):
        """is_shown, unshown and shows_all for all edges; whether all are shown."""
        shown = []
        for edge in edges(program):
            shown.append(is_shown(program, probes, edge, cuts))
            pair = unshown(program, probes, edge, cuts)
            self.assertIs(shown[-1], pair is None)
            if pair is None:
                continue
            one, other = pair
            self.assertIs(type(pair), tuple)
            self.assertIsNot(one, other)
            for covered in pair:
                self.assertIs(is_coverage(program, covered, cuts), True)
                self.assertEqual(covered, [mark for mark in marks(program) if mark in covered])
            self.assertEqual(seen_of(one, probes), seen_of(other, probes))
            self.assertNotIn(edge, one)
            self.assertIn(edge, other)
        self.assertIs(shows_all(program, probes, cuts), all(shown))
        return shown

    def test_of_the_example(self):
        program = tried()
        self.assertEqual(self.check(program, [("main", "e", "return")], True), [False, True, False, True, True, False,
            True, False])
        self.assertEqual(self.check(program, [("main", "e", "return")], False), [True, True, False, True, True, False,
            True, False])
        self.assertEqual(self.check(program, [], True), [False] * 8)
        self.assertEqual(self.check(program, edges(program), True), [True] * 8)
        self.assertEqual(self.check(program, [("f", "c", "raise"), ("main", "e", "return")], True), [True] * 8)
        self.assertEqual(self.check(program, [("f", "a", "no"), ("main", "e", "return")], True), [True, True, False,
            True, True, True, True, False])

    def test_edges_that_no_way_has_are_shown_by_all_probes(self):
        for program in [mutual(), server()]:
            for cuts in BOTH:
                dead = [edge for edge in edges(program) if edge not in live(program, [], cuts)]
                shown = self.check(program, [], cuts)
                self.assertTrue(all(flag for edge, flag in zip(edges(program), shown) if edge in dead))
                # Nor do they show any other one.
                self.assertEqual(self.check(program, dead, cuts), shown)
        self.assertEqual(self.check(server(), [], False), [True] * 3)
        self.assertEqual(self.check(server(), [], True), [False] * 3)

    def test_programs_made_by_chance_as_the_theorem_tells(self):
        judged = []
        for seed in range(80):
            dice = chance(seed)
            program = some_program(dice, 3, 3)
            for cuts in BOTH:
                probes = dice.sample(edges(program), dice.randint(0, min(6, len(edges(program)))))
                shown = self.check(program, probes, cuts)
                judged.extend(shown)
                if len(Search(program, [], cuts, 5).ahead) > 1500:
                    continue
                for edge, flag in zip(edges(program), shown):
                    without = Search(program, [edge], cuts, 5).live()
                    telling = [mark for mark in marks(program) if (mark in probes or is_pause(mark))
                        and mark not in without]
                    self.assertIs(flag, edge not in Search(program, telling, cuts, 5).live())
        self.assertGreater(judged.count(True), 200)
        self.assertGreater(judged.count(False), 60)

    def test_lists_of_small_ways_of_which_the_same_is_seen(self):
        judged = 0
        for seed in range(100, 200):
            dice = chance(seed)
            program = some_program(dice, 2, 3)
            for cuts in BOTH:
                ways = [marks_had(program, way, stack) for way, stack in all_ways(program, 7, 300) if cuts or not stack]
                ways = list({frozenset(had) for had in ways})
                ways = [sorted(had) for had in ways]
                held = dice.sample(sorted(ways), min(9, len(ways)))
                probes = dice.sample(edges(program), dice.randint(0, min(5, len(edges(program)))))
                known = {}
                for many in range(len(held) + 1):
                    for chosen in itertools.combinations(held, many):
                        covered = {mark for had in chosen for mark in had}
                        known.setdefault(frozenset(seen_of(covered, probes)), []).append(covered)
                for edge in edges(program):
                    alike = all(len({edge in covered for covered in group}) == 1 for group in known.values())
                    if not alike:
                        judged += 1
                        self.assertIs(is_shown(program, probes, edge, cuts), False)
        self.assertGreater(judged, 100)


class Classes(unittest.TestCase):
    """[41]"""

    def test_of_the_example(self):
        program = tried()
        self.assertEqual(classes(program, False), [
            [("main", "d", "call"), ("main", "d", "value"), ("main", "e", "return"), ("f", "a", "yes"),
                ("f", "b", "return")],
            [("main", "d", "fault"), ("f", "a", "no"), ("f", "c", "raise")],
        ])
        self.assertEqual(classes(program, True), [[("main", "d", "call")], [("main", "d", "value"),
            ("f", "b", "return")], [("main", "d", "fault"), ("f", "c", "raise")], [("main", "e", "return")],
            [("f", "a", "yes")], [("f", "a", "no")]])
        self.assertEqual(needed_classes(program, True), [[("main", "d", "fault"), ("f", "c", "raise")],
            [("main", "e", "return")]])
        self.assertEqual(needed_classes(program, False), [[("main", "d", "call"), ("main", "d", "value"),
            ("main", "e", "return"), ("f", "a", "yes"), ("f", "b", "return")], [("main", "d", "fault"),
            ("f", "a", "no"), ("f", "c", "raise")]])

    def test_programs_without_whole_ways(self):
        self.assertEqual(classes(server(), False), [])
        self.assertEqual(needed_classes(server(), False), [])
        self.assertEqual(classes(server(), True), [[edge] for edge in edges(server())])
        self.assertEqual(needed_classes(server(), True), [[("serve", "top", "no")], [("serve", "job", "go")]])
        self.assertEqual(classes(mutual(), False), classes(mutual(), False))

    def test_against_implied_and_is_shown(self):
        for seed in range(60):
            dice = chance(seed)
            program = some_program(dice)
            for cuts in BOTH:
                rows = [edge for edge in edges(program) if edge in live(program, [], cuts)]
                told = {edge: implied(program, edge, cuts) for edge in rows}
                groups = classes(program, cuts)
                self.assertEqual(sorted(sum(groups, [])), sorted(rows))
                self.assertEqual(groups, [[other for other in rows if other in told[group[0]]
                    and group[0] in told[other]] for group in groups])
                firsts = [edges(program).index(group[0]) for group in groups]
                self.assertEqual(firsts, sorted(firsts))
                needed = [group for group in groups if not is_shown(program, [edge for edge in edges(program)
                    if edge not in group], group[-1], cuts)]
                self.assertEqual(needed_classes(program, cuts), needed)

    def test_probes_are_enough_exactly_if_each_needed_class_has_one(self):
        judged = []
        for seed in range(60):
            dice = chance(seed)
            program = some_program(dice)
            for cuts in BOTH:
                needed = needed_classes(program, cuts)
                for left_out in [0, 0, 1]:
                    probes = [dice.choice(group) for group in needed[left_out:]]
                    probes += [edge for edge in dice.sample(edges(program), min(2, len(edges(program))))
                        if edge not in probes]
                    right = all(set(group) & set(probes) for group in needed)
                    judged.append(shows_all(program, dice.sample(probes, len(probes)), cuts))
                    self.assertIs(judged[-1], right)
        self.assertGreater(judged.count(True), 200)
        self.assertGreater(judged.count(False), 30)

    def test_what_shows_all_tells_all(self):
        """[30]"""
        judged = 0
        for seed in range(120):
            dice = chance(seed)
            program = some_program(dice)
            for cuts in BOTH:
                probes = [dice.choice(group) for group in needed_classes(program, cuts)]
                self.assertIs(shows_all(program, probes, cuts), True)
                self.assertIs(is_enough(program, probes, cuts), True)
                judged += len(probes)
        self.assertGreater(judged, 200)


class Least(unittest.TestCase):
    """[42]"""

    def test_of_the_example(self):
        program = tried()
        raised, fault, last = ("f", "c", "raise"), ("main", "d", "fault"), ("main", "e", "return")
        self.assertEqual(least_cover(program, [(raised, 3), (fault, 2), (last, 5)], True), [fault, last])
        self.assertEqual(least_cover(program, [(raised, 2), (last, 5), (fault, 2)], True), [fault, last])
        self.assertEqual(least_cover(program, [(last, 5), (raised, 2), (fault, 3)], True), [last, raised])
        self.assertEqual(least_cover(program, [(last, 0), (raised, 0), (fault, 0), (("f", "a", "no"), 0)], True),
            [fault, last])
        self.assertEqual(least_cover(program, [(last, 10 ** 9), (raised, 10 ** 9)], True), [last, raised])
        self.assertIsNone(least_cover(program, [(edge, 1) for edge in edges(program) if edge != last], True))
        self.assertIsNone(least_cover(program, [], True))
        self.assertEqual(least_cover(program, [(("f", "a", "no"), 4), (("main", "d", "call"), 9)], False),
            [("main", "d", "call"), ("f", "a", "no")])

    def test_where_nothing_is_needed(self):
        self.assertEqual(least_cover(server(), [], False), [])
        self.assertEqual(least_cover(server(), [(edge, 0) for edge in edges(server())], False), [])

    def test_against_all_subsets(self):
        judged = []
        for seed in range(120):
            dice = chance(seed)
            program = some_program(dice, 2, 3)
            if len(edges(program)) > 9:
                continue
            for cuts in BOTH:
                prices = [(edge, dice.choice([0, 0, 1, 2, 10 ** 9])) for edge in edges(program) if dice.random() < 0.95]
                dice.shuffle(prices)
                judged.append(least_cover(program, prices, cuts))
                self.assertEqual(judged[-1], self.least(program, prices, cuts))
        self.assertGreater(judged.count(None), 5)
        self.assertGreater(len(judged) - judged.count(None), 50)

    def least(self, program, prices, cuts):
        """The least of all subsets that show all, by price, number of edges, and places among all edges."""
        rows, known = edges(program), dict(prices)
        found = []
        for many in range(len(prices) + 1):
            for chosen in itertools.combinations([edge for edge in rows if edge in known], many):
                if shows_all(program, list(chosen), cuts):
                    found.append((sum(known[edge] for edge in chosen), many, [rows.index(edge) for edge in chosen]))
        return [rows[at] for at in min(found)[2]] if found else None


class Plainness(unittest.TestCase):
    """[2], [3]"""

    def test_nothing_is_changed_and_all_is_new(self):
        program, probes = mutual(), [("f", "a", "yes"), ("main", "a", "no")]
        prices = [(edge, 2) for edge in edges(program)]
        before = copy.deepcopy([program, probes, prices])
        for call in [lambda: unshown(program, probes, ("f", "b", "call"), True), lambda: classes(program, True),
                lambda: needed_classes(program, True), lambda: least_cover(program, prices, True)]:
            first = call()
            kept = copy.deepcopy(first)
            for part in first:
                if isinstance(part, list):
                    part.clear()
            if isinstance(first, list):
                first.clear()
            self.assertEqual(call(), kept)
        self.assertEqual([program, probes, prices], before)

    def test_arguments_by_their_names(self):
        program, edge = tried(), ("main", "d", "call")
        self.assertIs(is_shown(program=program, probes=[edge], edge=edge, cuts=True), True)
        self.assertIsNone(unshown(program=program, probes=[edge], edge=edge, cuts=True))
        self.assertIs(shows_all(program=program, probes=[edge], cuts=True), False)
        self.assertEqual(len(classes(program=program, cuts=False)), 2)
        self.assertEqual(len(needed_classes(program=program, cuts=True)), 2)
        self.assertIsNone(least_cover(program=program, prices=[(edge, 1)], cuts=True))

    def test_great_programs_within_seconds(self):
        begin = time.perf_counter()
        program = great()
        for cuts in BOTH:
            needed = needed_classes(program, cuts)
            probes = least_cover(program, [(edge, 1) for edge in edges(program)], cuts)
            self.assertEqual(len(probes), len(needed))
            self.assertIs(shows_all(program, probes, cuts), True)
            self.assertIs(is_enough(program, probes, cuts), True)
            self.assertEqual(sum(classes(program, False), []) != [], live_edges(program) != [])
        self.assertLess(time.perf_counter() - begin, 20)
