import copy
import time
import unittest

from fewprobes.blocks import edges
from fewprobes.edits import carried, in_step, lots
from fewprobes.errors import InvalidProfile, InvalidProgram, Unlike
from fewprobes.profiles import merged, recorded
from fewprobes.runs import Runner, trace
from makers import chance, some_program
from samples import odd_values, of_blocks

END = ("return", "x")


def old():
    """The program of the document's example."""
    return of_blocks([("a", [("read", "x")], ("test", "x", "b", "c")), ("b", [("print", "x")], ("go", "a")),
        ("c", [], ("return", "x"))])


def new():
    """What it has become: one turn of its loop stands in a block of its own, and its end is another one."""
    return of_blocks([("a", [("read", "x")], ("test", "x", "b", "c")), ("b", [("print", "x")], ("go", "d")),
        ("c", [], ("raise", "x")), ("d", [("read", "x")], ("test", "x", "b", "c"))])


def called(parameters=("n",), given=("x",), name="f", label="in"):
    """main calls another function in a loop."""
    return ("program", [
        ("main", [], [("a", [("read", "x")], ("test", "x", "b", "c")), ("b", [], ("call", "y", name, given, "a")),
            ("c", [], END)]),
        (name, list(parameters), [(label, [], ("return", parameters[0] if parameters else "x"))]),
    ])


def blocks_of(program):
    return [(function[0], block[0]) for function in program[1] for block in function[2]]


def edited(program, dice):
    """A program like another one: functions and labels renamed, blocks put in another order and copied, some changed.

    First blocks stay first.
    """
    names = {function[0]: f"n{k}" for k, function in enumerate(dice.sample(program[1], len(program[1])))}
    functions = []
    for name, parameters, blocks in program[1]:
        labels = {label: f"m{k}" for k, (label, steps, end) in enumerate(dice.sample(blocks, len(blocks)))}
        copies = {label: dice.choice([labels[label], labels[label], "copied" + labels[label]]) for label in labels}
        held = [(labels[label], list(steps), renamed(end, names, labels, copies, dice)) for label, steps, end in blocks]
        more = [("copied" + labels[label], list(steps), renamed(end, names, labels, copies, dice))
            for label, steps, end in blocks]
        if dice.random() < 0.4:
            at = dice.randrange(len(held))
            label, steps, end = held[at]
            held[at] = (label, steps + [("print", "x")], end)
        rest = held[1:] + more
        functions.append((names[name], list(parameters), held[:1] + dice.sample(rest, len(rest))))
    rest = functions[1:]
    return ("program", functions[:1] + dice.sample(rest, len(rest)))


def renamed(end, names, labels, copies, dice):
    parts = list(end)
    places = {"go": [1], "test": [2, 3], "call": [4], "try": [4, 6]}.get(end[0], [])
    for at in places:
        parts[at] = dice.choice([labels, copies])[end[at]]
    if end[0] in ("call", "try"):
        parts[2] = names[end[2]]
    return tuple(parts)


class Refusing(unittest.TestCase):
    def refuses(self, kind, value, function, *arguments):
        with self.assertRaises(kind) as caught:
            function(*arguments)
        self.assertIs(caught.exception.value, value)

    def test_programs_then_profiles(self):
        for value in odd_values() + [("program", [])]:
            self.refuses(InvalidProgram, value, in_step, value, None)
            self.refuses(InvalidProgram, value, in_step, old(), value)
            for function in [lots, carried]:
                self.refuses(InvalidProgram, value, function, value, None, None)
                self.refuses(InvalidProgram, value, function, old(), value, None)
        begun = of_blocks([("a", [], END)], parameters=["n"])
        for value in odd_values() + [recorded(new(), []), recorded(old(), [])[:4], list(recorded(old(), []))]:
            for function in [lots, carried]:
                for other in [new(), begun]:
                    self.refuses(InvalidProfile, value, function, old(), other, value)

    def test_other_parameters_of_the_main_function(self):
        other = of_blocks(old()[1][0][2], parameters=["n"])
        for profile in [recorded(old(), []), recorded(old(), trace(old(), [], [1], 9)), merged(old(), [])]:
            self.refuses(Unlike, other, lots, old(), other, profile)
            self.refuses(Unlike, other, carried, old(), other, profile)
        for parameters in [["n", "m"], ["m", "n"], ["k"], []]:
            one, two = of_blocks([("a", [], END)], parameters=["n"]), of_blocks([("a", [], END)], parameters=parameters)
            self.refuses(Unlike, two, carried, one, two, merged(one, []))


class InStep(unittest.TestCase):
    """[48]"""

    def test_of_the_example(self):
        self.assertEqual(in_step(old(), new()), [("main", "a", "main", "a", True), ("main", "a", "main", "d", True),
            ("main", "b", "main", "b", True), ("main", "c", "main", "c", False)])
        self.assertEqual(in_step(new(), old()), [("main", "a", "main", "a", True), ("main", "b", "main", "b", True),
            ("main", "c", "main", "c", False), ("main", "d", "main", "a", True)])

    def test_a_program_and_itself(self):
        for program in [old(), new(), called()] + [some_program(chance(seed)) for seed in range(60)]:
            for name, label, other, other_label, flag in in_step(program, program):
                self.assertEqual([(name, label), flag], [(other, other_label), True])

    def test_other_parameters_of_the_main_function(self):
        self.assertEqual(in_step(old(), of_blocks(old()[1][0][2], parameters=["n"])), [])

    def test_what_has_to_be_the_same(self):
        for one, two, flag in [
            (([], ("go", "a")), ([], ("go", "b")), True), (([], ("go", "a")), ([], END), False),
            (([("set", "x", 1)], END), ([("set", "x", 1)], END), True),
            (([("set", "x", 1)], END), ([("set", "x", 2)], END), False), (([("set", "x", 1)], END), ([], END), False),
            (([("read", "x"), ("print", "x")], END), ([("print", "x"), ("read", "x")], END), False),
            (([("count", 1)], END), ([("count", 2)], END), False),
            (([], ("return", "x")), ([], ("return", "y")), False), (([], ("return", "x")), ([], ("raise", "x")), False),
            (([], ("test", "x", "a", "b")), ([], ("test", "x", "b", "a")), True),
            (([], ("test", "x", "a", "b")), ([], ("test", "y", "a", "b")), False),
            (([], ("call", "x", "f", (), "a")), ([], ("call", "x", "g", (), "b")), True),
            (([], ("call", "x", "f", (), "a")), ([], ("call", "y", "f", (), "a")), False),
            (([], ("call", "x", "f", (), "a")), ([], ("call", "x", "k", ("x",), "a")), False),
            (([], ("call", "x", "k", ("x",), "a")), ([], ("call", "x", "k", ("y",), "a")), False),
            (([], ("call", "x", "k", ("x",), "a")), ([], ("call", "x", "m", ("x",), "a")), False),
            (([], ("call", "x", "f", (), "a")), ([], ("try", "x", "f", (), "a", "x", "a")), False),
            (([], ("try", "x", "f", (), "a", "x", "b")), ([], ("try", "x", "g", (), "b", "x", "b")), True),
            (([], ("try", "x", "f", (), "a", "x", "b")), ([], ("try", "x", "f", (), "a", "y", "b")), False),
            (([], ("try", "x", "f", (), "a", "x", "b")), ([], ("try", "y", "f", (), "a", "x", "b")), False),
        ]:
            programs = [("program", [("main", [], [("a", *block), ("b", [], END)]), ("f", [], [("c", [], END)]),
                ("g", [], [("c", [], END)]), ("k", ["n"], [("c", [], END)]), ("m", ["l"], [("c", [], END)])])
                for block in [one, two]]
            self.assertEqual(in_step(*programs)[0], ("main", "a", "main", "a", flag), [one, two])
            self.assertEqual(in_step(*programs[::-1])[0][4], flag)
            self.assertEqual(len(in_step(*programs)) == 1, not flag or one[1][0] in ("return", "raise"))

    def test_functions_renamed_and_with_other_parameters(self):
        self.assertEqual(in_step(called(), called(name="g", label="out")), [("main", "a", "main", "a", True),
            ("main", "b", "main", "b", True), ("main", "c", "main", "c", True), ("f", "in", "g", "out", True)])
        self.assertEqual(in_step(called(), called(parameters=("m",))), [("main", "a", "main", "a", True),
            ("main", "b", "main", "b", False), ("main", "c", "main", "c", True)])

    def test_whether_a_run_comes_there_is_not_asked(self):
        one = of_blocks([("a", [("set", "x", 0)], ("test", "x", "b", "b")), ("b", [], END)])
        two = of_blocks([("a", [("set", "x", 0)], ("test", "x", "c", "b")), ("b", [], END), ("c", [], ("go", "b"))])
        self.assertEqual(in_step(one, two), [("main", "a", "main", "a", True), ("main", "b", "main", "b", True),
            ("main", "b", "main", "c", False)])
        endless = ("program", [("main", [], [("a", [], ("call", "x", "main", (), "b")), ("b", [], END)])])
        self.assertEqual(in_step(endless, endless), [("main", "a", "main", "a", True), ("main", "b", "main", "b",
            True)])

    def test_against_ways_that_lead_to_pairs(self):
        for seed in range(80):
            dice = chance(seed)
            program = some_program(dice)
            other = edited(program, dice)
            found = in_step(program, other)
            places = [blocks_of(program).index(row[:2]) for row in found]
            self.assertEqual(places, sorted(places))
            for row, behind in zip(found, found[1:]):
                if row[:2] == behind[:2]:
                    self.assertLess(blocks_of(other).index(row[2:4]), blocks_of(other).index(behind[2:4]))
            self.assertEqual(found, self.told(program, other))

    def told(self, program, other):
        """In step by going on until nothing is new."""
        def block(each, place):
            return [row for function in each[1] if function[0] == place[0] for row in function[2] if row[0]
                == place[1]][0]

        def parameters(each, name):
            return [function[1] for function in each[1] if function[0] == name][0]

        def leads(each, place):
            end = block(each, place)[2]
            found = [(place[0], end[at]) for at in {"go": [1], "test": [2, 3], "call": [4], "try": [4, 6]}.get(end[0],
                [])]
            if end[0] in ("call", "try"):
                found.append((end[2], [function[2][0][0] for function in each[1] if function[0] == end[2]][0]))
            return found

        def shape(each, place):
            label, steps, end = block(each, place)
            kept = {"call": [0, 1, 3], "try": [0, 1, 3, 5]}.get(end[0], [0, 1])
            if end[0] == "go":
                kept = [0]
            given = parameters(each, end[2]) if end[0] in ("call", "try") else None
            return [steps, [end[at] for at in kept], given]

        pairs = {(blocks_of(program)[0], blocks_of(other)[0])}
        while True:
            more = {(one, two) for pair in pairs if shape(program, pair[0]) == shape(other, pair[1])
                for one, two in zip(leads(program, pair[0]), leads(other, pair[1]))}
            if more <= pairs:
                break
            pairs |= more
        rows = sorted((blocks_of(program).index(one), blocks_of(other).index(two), one, two) for one, two in pairs)
        return [(*one, *two, shape(program, one) == shape(other, two)) for k, j, one, two in rows]


class Lots(unittest.TestCase):
    """[49]"""

    def test_of_the_example(self):
        self.assertEqual(lots(old(), new(), recorded(old(), trace(old(), [], [5, 7, 0], 5))), [
            ([("main", "a", "yes"), ("main", "d", "yes")], 2), ([("main", "a", "no"), ("main", "d", "no")], 1),
            ([("main", "b", "go")], 2), ([("main", "c", "raise")], 0)])
        profile = recorded(new(), trace(new(), [], [5, 7, 9, 0], 7))
        self.assertEqual(lots(new(), old(), profile), [([("main", "a", "yes")], 3), ([("main", "a", "no")], 1),
            ([("main", "b", "go")], 3), ([("main", "c", "return")], 0)])

    def test_blocks_that_are_gone_through_and_not_alike(self):
        for function in [lots, carried]:
            with self.assertRaises(Unlike) as caught:
                function(old(), new(), recorded(old(), trace(old(), [], [0], 9)))
            self.assertEqual(caught.exception.value, ("main", "c"))
        one = of_blocks([("a", [], ("test", "x", "c", "b")), ("b", [], END), ("c", [], END)])
        two = of_blocks([("a", [], ("test", "x", "b", "c")), ("b", [], ("raise", "x")), ("c", [], ("go", "a"))])
        for counts, label in [([1, 1, 1, 1], "b"), ([1, 1, 0, 1], "c"), ([1, 1, 1, 0], "b"), ([0, 0, 0, 9], "c")]:
            for function in [lots, carried]:
                with self.assertRaises(Unlike) as caught:
                    function(one, two, ("profile", 1, counts, [0] * 3, [0] * 3))
                self.assertEqual(caught.exception.value, ("main", label))
        self.assertEqual(lots(one, two, ("profile", 1, [2, 3, 0, 0], [1] * 3, [1] * 3)), [([("main", "a", "yes")], 2),
            ([("main", "a", "no")], 3), ([("main", "b", "raise")], 0), ([("main", "c", "go")], 0)])

    def test_a_block_that_is_alike_to_one_and_unlike_to_another(self):
        one = of_blocks([("a", [("read", "x")], ("test", "x", "b", "b")), ("b", [], END)])
        two = of_blocks([("a", [("read", "x")], ("test", "x", "b", "c")), ("b", [], END), ("c", [], ("raise", "x"))])
        with self.assertRaises(Unlike) as caught:
            lots(one, two, recorded(one, trace(one, [], [5], 2)))
        self.assertEqual(caught.exception.value, ("main", "b"))
        self.assertEqual(lots(one, two, recorded(one, trace(one, [], [5], 1))), [([("main", "a", "yes")], 1),
            ([("main", "a", "no")], 0), ([("main", "b", "return")], 0), ([("main", "c", "raise")], 0)])

    def test_against_the_same_runs_made_anew(self):
        told = 0
        for seed in range(400):
            dice = chance(seed)
            program = some_program(dice)
            other = edited(program, dice)
            runs = [([dice.randint(-1, 2) for _ in program[1][0][1]], [dice.choice([0, 0, 1]) for _ in range(5)],
                dice.choice([0, 1, 3, 8, 30])) for _ in range(3)]
            told += self.compare(program, other, runs)
        self.assertGreater(told, 200)

    def compare(self, program, other, runs):
        """lots and carried; whether the profile could be carried."""
        profile = merged(program, [recorded(program, trace(program, *each)) for each in runs])
        anew = merged(other, [recorded(other, trace(other, *each)) for each in runs])
        steps = in_step(program, other)
        gone = dict(zip(edges(program), profile[2]))
        wrong = [row[:2] for row in steps if not row[4] and any(gone[edge] for edge in edges(program)
            if edge[:2] == row[:2])]
        if wrong:
            for function in [lots, carried]:
                with self.assertRaises(Unlike) as caught:
                    function(program, other, profile)
                self.assertEqual(caught.exception.value, wrong[0])
            return False
        known = dict(zip(edges(other), anew[2]))
        found = lots(program, other, profile)
        self.assertEqual(sorted(sum([group for group, many in found], [])), sorted(edges(other)))
        for group, many in found:
            self.assertEqual(many, sum(known[edge] for edge in group))
            self.assertEqual(group, [edge for edge in edges(other) if edge in group])
            self.assertEqual(group, self.lot_of(group[0], other, steps))
        firsts = [edges(other).index(group[0]) for group, many in found]
        self.assertEqual(firsts, sorted(firsts))
        told = [sum(profile[2][k] for k, edge in enumerate(edges(program)) if edge[:2] == place)
            + profile[3][at] + profile[4][at] for at, place in enumerate(blocks_of(program))]
        wrong = [place for place, many in zip(blocks_of(program), told)
            if many and [row[:2] for row in steps].count(place) != 1]
        if wrong:
            with self.assertRaises(Unlike) as caught:
                carried(program, other, profile)
            self.assertEqual(caught.exception.value, wrong[0])
            return False
        self.assertEqual(carried(program, other, profile), anew)
        return True

    def lot_of(self, edge, other, steps):
        """The edges with the same way at the blocks that hang together with its block."""
        held, joined = {("other",) + edge[:2]}, [(row[:2], ("other",) + row[2:4]) for row in steps if row[4]]
        while True:
            more = {place for pair in joined if set(pair) & held for place in pair}
            if more <= held:
                break
            held |= more
        return [each for each in edges(other) if each[2] == edge[2] and ("other",) + each[:2] in held]


class Carried(unittest.TestCase):
    """[50]"""

    def test_of_the_example(self):
        other = ("program", [old()[1][0], ("f", [], [("x", [], ("return", "x"))])])
        self.assertEqual(carried(old(), other, recorded(old(), trace(old(), [], [5, 7], 9))), ("profile", 1,
            [2, 1, 2, 1, 0], [0] * 4, [0] * 4))

    def test_blocks_that_go_in_step_with_more_than_one_or_none(self):
        for inputs, most, label in [([5], 2, "a"), ([5], 1, "a"), ([], 0, "a")]:
            with self.assertRaises(Unlike) as caught:
                carried(old(), new(), recorded(old(), trace(old(), [], inputs, most)))
            self.assertEqual(caught.exception.value, ("main", label))
        self.assertEqual(carried(new(), old(), recorded(new(), trace(new(), [], [5, 7], 3))), ("profile", 1,
            [2, 0, 1, 0], [0] * 3, [0, 1, 0]))
        one = of_blocks([("a", [], END), ("u", [], END)])
        for counts, waiting, standing in [([0, 1], [0, 0], [0, 0]), ([0, 0], [0, 1], [0, 0]), ([0, 0], [0, 0], [0, 1])]:
            with self.assertRaises(Unlike) as caught:
                carried(one, one, ("profile", 1, counts, waiting, standing))
            self.assertEqual(caught.exception.value, ("main", "u"))
            profile = ("profile", 1, counts[::-1], waiting[::-1], standing[::-1])
            self.assertEqual(carried(one, one, profile), profile)

    def test_unlike_blocks_first(self):
        one = of_blocks([("a", [], ("test", "x", "b", "c")), ("b", [], END), ("c", [], END), ("u", [], END)])
        two = of_blocks([("a", [], ("test", "x", "b", "c")), ("b", [], ("raise", "x")), ("c", [], END)])
        for counts, standing, label in [([1, 1, 1, 1, 1], [0] * 4, "b"), ([1, 1, 0, 1, 1], [0] * 4, "u"),
                ([0, 0, 0, 0, 0], [0, 0, 0, 2], "u")]:
            with self.assertRaises(Unlike) as caught:
                carried(one, two, ("profile", 1, counts, [0] * 4, standing))
            self.assertEqual(caught.exception.value, ("main", label))
        other = of_blocks(two[1][0][2], parameters=["n"])
        with self.assertRaises(Unlike) as caught:
            carried(one, other, ("profile", 1, [1] * 5, [0] * 4, [0] * 4))
        self.assertIs(caught.exception.value, other)

    def test_runs_that_stand_at_a_block_that_is_not_alike(self):
        profile = recorded(old(), trace(old(), [], [0], 1))
        with self.assertRaises(Unlike) as caught:
            carried(old(), new(), profile)
        self.assertEqual(caught.exception.value, ("main", "a"))
        other = of_blocks(old()[1][0][2][:2] + [("c", [], ("raise", "x"))])
        self.assertEqual(carried(old(), other, profile), profile)
        self.assertEqual(carried(called(), called(parameters=("m",)), recorded(called(), trace(called(), [], [3], 1))),
            recorded(called(), trace(called(), [], [3], 1)))

    def test_several_blocks_that_become_one(self):
        profile = recorded(new(), trace(new(), [], [5, 7, 9], 4))
        self.assertEqual(carried(new(), old(), profile), recorded(old(), trace(old(), [], [5, 7, 9], 4)))

    def test_recursion(self):
        def down(name):
            return ("program", [(name, ["n"], [
                ("a", [("set", "one", 1), ("deed", "m", "minus", "n", "one")], ("test", "n", "b", "c")),
                ("b", [], ("try", "x", name, ("m",), "c", "y", "c")), ("c", [], ("return", "n"))])])

        profiles = [[recorded(down(name), trace(down(name), [4], [], most)) for most in [0, 3, 7, 99]]
            for name in ["main", "other"]]
        for one, two in zip(*profiles):
            self.assertEqual(carried(down("main"), down("other"), one), two)
        self.assertEqual(Runner(down("main"), [4], []).go(99), ("value", 4))


class Plainness(unittest.TestCase):
    """[2], [3]"""

    def test_nothing_is_changed_and_all_is_new(self):
        program, other = called(), called(name="g")
        profile = recorded(program, trace(program, [], [1, 0], 9))
        before = copy.deepcopy([program, other, profile])
        for call in [lambda: in_step(program, other), lambda: lots(program, other, profile)]:
            first = call()
            kept = copy.deepcopy(first)
            for row in first:
                if isinstance(row[0], list):
                    row[0].clear()
            first.clear()
            self.assertEqual(call(), kept)
        found = carried(program, other, profile)
        for part in found[2:]:
            part.clear()
        self.assertEqual([program, other, profile], before)
        self.assertEqual(len({id(part) for part in carried(program, other, profile)[2:]}), 3)

    def test_arguments_by_their_names(self):
        profile = recorded(old(), [])
        self.assertEqual(in_step(program=old(), other=old())[0], ("main", "a", "main", "a", True))
        self.assertEqual(len(lots(program=old(), other=new(), profile=profile)), 4)
        self.assertEqual(carried(program=old(), other=old(), profile=profile), profile)

    def test_great_programs_within_seconds(self):
        begin = time.perf_counter()
        one = of_blocks([(f"b{k}", [], ("test", "x", f"b{(k + 1) % 40}", f"b{(k * 7 + 3) % 40}")) for k in range(40)])
        two = of_blocks([(f"b{k}", [], ("test", "x", f"b{(k + 1) % 39}", f"b{(k * 5 + 2) % 39}")) for k in range(39)])
        self.assertEqual(len(in_step(one, two)), 40 * 39)
        self.assertEqual([len(group) for group, many in lots(one, two, ("profile", 1, [1] * 80, [0] * 40, [0] * 40))],
            [39, 39])
        self.assertLess(time.perf_counter() - begin, 10)
