"""The examples that the document shows for the modules that there are: each line, and what it shows behind it."""

import unittest

SOURCES = r"""
from fewprobes.readings import lines, read_source, written, wrong_at
from fewprobes.sourceruns import source_run
from fewprobes.sources import how_many_statements, is_source
half = read_source("fun main(n) { while 1 < n { n = call half(n); print n; } } fun half(n) { if n rest 2 { raise n; } return n over 2; }")
half
# ('source', [('main', ['n'], [('while', ('less', ('number', 1), ('name', 'n')), [('call', 'n', 'half', [('name', 'n')]), ('print', ('name', 'n'))])]), ('half', ['n'], [('if', ('rest', ('name', 'n'), ('number', 2)), [('raise', ('name', 'n'))], []), ('return', ('over', ('name', 'n'), ('number', 2)))])])
[is_source(half), how_many_statements(half), source_run(half, [12], [], 99), source_run(half, [12], [], 3)]
# [True, 6, (('fault', 3), [6, 3], [0, 1, 3, 5, 2, 0, 1, 3, 5, 2, 0, 1, 3, 4]), (('on',), [], [0, 1, 3])]
written(half)
# 'fun main(n) {\n  while 1 < n {\n    n = call half(n);\n    print n;\n  }\n}\nfun half(n) {\n  if n rest 2 {\n    raise n;\n  }\n  return n over 2;\n}\n'
[lines(written(half)), wrong_at("fun main() { x = 3 }"), wrong_at("fun main() { x1 = 3; }"), wrong_at("fun main() {")]
# [[2, 3, 4, 8, 9, 11], (1, 20), (1, 14), (1, 13)]
[read_source("fun f() { x = 1 - 2 - (3 < x) * 4; }")[1][0][2], is_source(read_source("fun f() { leave; }"))]
# [[('set', 'x', ('minus', ('minus', ('number', 1), ('number', 2)), ('times', ('less', ('number', 3), ('name', 'x')), ('number', 4))))], False]
"""
COMPILER = r"""
from fewprobes.compiler import compiled, places, statement_counts, statements_gone
from fewprobes.profiles import recorded
from fewprobes.readings import read_source
from fewprobes.runs import run, trace
added = read_source("fun main() { s = 0; while 1 { read x; if x { s = s + x; again; } leave; } return s; }")
compiled(added)[1][0][2][:3]
# [('s0', [('set', 's', 0)], ('go', 's1')), ('s1', [('set', 't0', 1)], ('test', 't0', 's2', 's7')), ('s2', [('read', 'x'), ('copy', 't0', 'x')], ('test', 't0', 's4', 's6'))]
compiled(added)[1][0][2][3:]
# [('s4', [('copy', 't0', 's'), ('copy', 't1', 'x'), ('deed', 's', 'plus', 't0', 't1')], ('go', 's1')), ('s6', [], ('go', 's7')), ('s7', [('copy', 't0', 's')], ('return', 't0'))]
[places(added), run(compiled(added), [], [5, 7], 99)]
# [[('main', 's0'), ('main', 's1'), ('main', 's2'), ('main', 's2'), ('main', 's4'), ('main', 's4'), ('main', 's6'), ('main', 's7')], (('value', 12), [], [])]
[statements_gone(added, trace(compiled(added), [], [5, 7], 5)), statement_counts(added, recorded(compiled(added), trace(compiled(added), [], [5, 7], 99)))]
# [[0, 1, 2, 3, 4, 5, 1], [1, 3, 3, 3, 2, 2, 1, 1]]
caught = read_source("fun main() { try { x = call f(1); raise x; } catch y { } } fun f(a) { return a + 1; }")
compiled(caught)[1]
# [('main', [], [('s0', [], ('go', 's1')), ('s1', [('set', 't0', 1)], ('try', 'x', 'f', ('t0',), 's2', 'y', 'end')), ('s2', [('copy', 'y', 'x')], ('go', 'end')), ('end', [('set', 't0', 0)], ('return', 't0'))]), ('f', ['a'], [('s3', [('copy', 't0', 'a'), ('set', 't1', 1), ('deed', 't0', 'plus', 't0', 't1')], ('return', 't0'))])]
"""
PROFILES = r"""
from fewprobes.profiles import begun, is_profile, merged, passes, recorded, without
from fewprobes.runs import trace
shown = ("program", [("main", ["n"], [("top", [("read", "x")], ("test", "x", "more", "done")), ("more", [], ("call", "y", "f", ("x",), "top")), ("done", [], ("return", "n"))]), ("f", ["a"], [("in", [], ("return", "a"))])])
[recorded(shown, trace(shown, [0], [5], 9)), recorded(shown, trace(shown, [0], [5], 2))]
# [('profile', 1, [1, 1, 1, 1, 0, 1, 1], [0, 0, 0, 0], [0, 0, 0, 0]), ('profile', 1, [1, 0, 1, 0, 0, 0, 0], [0, 1, 0, 0], [0, 0, 0, 1])]
both = merged(shown, [recorded(shown, trace(shown, [0], [5], 9)), recorded(shown, trace(shown, [0], [5], 2))])
[both, is_profile(shown, both), passes(shown, both), begun(shown, both)]
# [('profile', 2, [2, 1, 2, 1, 0, 1, 1], [0, 1, 0, 0], [0, 0, 0, 1]), True, [3, 2, 1, 1], [('main', 2), ('f', 2)]]
[without(shown, both, recorded(shown, trace(shown, [0], [5], 2))), recorded(shown, []), merged(shown, [])]
# [('profile', 1, [1, 1, 1, 1, 0, 1, 1], [0, 0, 0, 0], [0, 0, 0, 0]), ('profile', 1, [0, 0, 0, 0, 0, 0, 0], [0, 0, 0, 0], [1, 0, 0, 0]), ('profile', 0, [0, 0, 0, 0, 0, 0, 0], [0, 0, 0, 0], [0, 0, 0, 0])]
"""
TALLIES = r"""
from fewprobes.balance import drawn_up, edge_counts, full_tally, is_tally, misfit, moves, tally, way_places
turn = ("f", ["n"], [("a", [], ("test", "n", "b", "c")), ("b", [], ("return", "n")), ("c", [], ("raise", "n"))])
main = ("main", [], [("d", [("read", "x")], ("try", "y", "f", ("x",), "e", "z", "d")), ("e", [], ("return", "y"))])
program = ("program", [main, turn])
moves(program, False)[:3]
# [(('main', 'd', 'value', 'value'), [('f', 'a', 'value'), ('main', 'e', 'value')]), (('main', 'd', 'fault', 'value'), [('f', 'a', 'fault'), ('main', 'd', 'value')]), (('main', 'e', 'return', 'value'), [])]
[way_places(program, False), [move[1:] for move, led in moves(program, False)[3:]]]
# [[('main', 'd', 'value'), ('main', 'e', 'value'), ('f', 'a', 'value'), ('f', 'a', 'fault'), ('f', 'b', 'value'), ('f', 'c', 'fault')], [('a', 'yes', 'value'), ('a', 'no', 'fault'), ('b', 'return', 'value'), ('c', 'raise', 'fault')]]
[move for move, led in moves(program, True) if move[3] == "cut"][:4]
# [('main', 'd', 'value', 'cut'), ('main', 'd', 'fault', 'cut'), ('main', 'd', 'waits', 'cut'), ('main', 'd', 'stands', 'cut')]
[is_tally(program, [2, 3, 2, 2, 3, 2, 3], False), misfit(program, [2, 3, 2, 2, 3, 2, 2], False), misfit(program, [0, 3, 0, 0, 3, 0, 3], False)]
# [True, (('f', 'c', 'fault'), 'balance'), (('main', 'd', 'value'), 'apart')]
ways = drawn_up(program, [2, 3, 2, 2, 3, 2, 3], False)
[len(ways), tally(program, ways, False), edge_counts(program, [2, 3, 2, 2, 3, 2, 3], False)]
# [2, [2, 3, 2, 2, 3, 2, 3], [5, 2, 3, 2, 2, 3, 2, 3]]
"""
PROBES = r"""
from fewprobes.probes import cheaper, is_enough, is_least, is_paper, least_probes, needed, paper, parted, told_back
turn = ("f", ["n"], [("a", [], ("test", "n", "b", "c")), ("b", [], ("return", "n")), ("c", [], ("raise", "n"))])
main = ("main", [], [("d", [("read", "x")], ("try", "y", "f", ("x",), "e", "z", "d")), ("e", [], ("return", "y"))])
program = ("program", [main, turn])
[needed(program, False), is_enough(program, [("f", "a", "yes"), ("f", "a", "no")], True), is_enough(program, [("main", "d", "call")], False)]
# [2, True, False]
[paper(program, [("f", "a", "yes"), ("f", "a", "no")], ("main", "d", "call"), cuts)[0] for cuts in [False, True]]
# [[(1, 1), (1, 1)], [(1, 1), (1, 1)]]
least_probes(program, [(("main", "d", "call"), 5), (("main", "d", "value"), 2), (("f", "c", "raise"), 4), (("f", "a", "no"), 3)], False)
# [('main', 'd', 'value'), ('f', 'a', 'no')]
cheaper(program, [(("main", "d", "call"), 5), (("main", "e", "return"), 2), (("f", "a", "no"), 3)], [("main", "d", "call"), ("main", "e", "return")], True)
# (('main', 'd', 'call'), ('f', 'a', 'no'))
told_back(program, [("main", "d", "value"), ("f", "a", "no")], [2, 4], [1, 0, 0, 0, 0], [0, 1, 0, 0, 1])
# [6, 2, 3, 1, 2, 4, 2, 3]
server = ("program", [("serve", [], [("top", [("read", "x")], ("test", "x", "job", "top")), ("job", [("print", "x")], ("go", "top"))])])
[needed(server, False), needed(server, True), told_back(server, [("serve", "top", "yes"), ("serve", "top", "no")], [4, 9], [0, 0], [0, 1])]
# [0, 2, [4, 9, 3]]
"""
COVERAGE = r"""
from fewprobes.alive import live, marks, shortest_way
from fewprobes.coverage import implied, is_coverage
from fewprobes.cover import classes, is_shown, least_cover, needed_classes, unshown
from fewprobes.seen import fitting, seen_back
turn = ("f", ["n"], [("a", [], ("test", "n", "b", "c")), ("b", [], ("return", "n")), ("c", [], ("raise", "n"))])
main = ("main", [], [("d", [("read", "x")], ("try", "y", "f", ("x",), "e", "z", "d")), ("e", [], ("return", "y"))])
program = ("program", [main, turn])
marks(program)[8:]
# [('main', 'd', 'waits'), ('main', 'd', 'stands'), ('main', 'e', 'stands'), ('f', 'a', 'stands'), ('f', 'b', 'stands'), ('f', 'c', 'stands')]
[shortest_way(program, ("f", "c", "raise"), [], True), live(program, [("f", "a", "yes")], False)]
# [[('main', 'd', 'call'), ('f', 'a', 'no'), ('f', 'c', 'raise'), ('main', 'd', 'fault')], []]
[implied(program, ("main", "e", "stands"), True), is_coverage(program, [("main", "d", "stands")], True)]
# [[('main', 'd', 'call'), ('main', 'd', 'value'), ('f', 'a', 'yes'), ('f', 'b', 'return'), ('main', 'e', 'stands')], True]
classes(program, False)
# [[('main', 'd', 'call'), ('main', 'd', 'value'), ('main', 'e', 'return'), ('f', 'a', 'yes'), ('f', 'b', 'return')], [('main', 'd', 'fault'), ('f', 'a', 'no'), ('f', 'c', 'raise')]]
needed_classes(program, True)
# [[('main', 'd', 'fault'), ('f', 'c', 'raise')], [('main', 'e', 'return')]]
[is_shown(program, [("main", "e", "return")], ("f", "a", "no"), True), unshown(program, [("main", "e", "return")], ("main", "e", "return"), True)]
# [False, None]
least_cover(program, [(("f", "c", "raise"), 3), (("main", "d", "fault"), 2), (("main", "e", "return"), 5)], True)
# [('main', 'd', 'fault'), ('main', 'e', 'return')]
seen_back(program, [("main", "e", "return"), ("f", "c", "raise")], [("f", "c", "raise"), ("main", "d", "stands")])
# ['yes', 'no', 'yes', 'no', 'no', 'yes', 'no', 'yes']
[seen_back(program, [("main", "e", "return")], [("main", "d", "stands")]), fitting(program, [("main", "e", "return")], [("main", "d", "stands")], ("f", "a", "no"), False)]
# [['open', 'no', 'open', 'no', 'no', 'open', 'no', 'open'], [('main', 'd', 'stands')]]
"""
REBUILD = r"""
from fewprobes.rebuild import counted, flagged, meant, overhead, rebuilt
from fewprobes.runs import counters, run
turn = ("f", ["n"], [("a", [], ("test", "n", "b", "c")), ("b", [], ("return", "n")), ("c", [], ("raise", "n"))])
main = ("main", [], [("d", [("read", "x")], ("call", "y", "f", ("x",), "e")), ("e", [], ("return", "y"))])
program = ("program", [main, turn])
probes = [("f", "a", "no"), ("main", "d", "fault"), ("f", "b", "return")]
made = rebuilt(program, probes)
made[1][0]
# ('main', [], [('d', [('read', 'x')], ('try', 'y', 'f', ('x',), 'e', 'c0', 'c0')), ('e', [], ('return', 'y')), ('c0', [('count', 1)], ('raise', 'c0'))])
made[1][1]
# ('f', ['n'], [('a', [], ('test', 'n', 'b', 'c0')), ('b', [('count', 2)], ('return', 'n')), ('c', [], ('raise', 'n')), ('c0', [('count', 0)], ('go', 'c'))])
[run(program, [], [0], 9), run(made, [], [0], 9), counters(made, [], [0], 9)]
# [(('fault', 0), [], []), (('fault', 0), [], []), [(0, 1), (1, 1)]]
[run(made, [], [0], 2)[1], meant(program, probes, run(made, [], [0], 2)[1]), run(program, [], [0], 2)[1]]
# [[('main', 'd'), ('f', 'c0')], ([('main', 'd'), ('f', 'c')], [('f', 'a', 'no')]), [('main', 'd'), ('f', 'c')]]
[run(made, [], [0], 4)[1], meant(program, probes, run(made, [], [0], 4)[1]), run(program, [], [0], 3)[1]]
# [[('main', 'c0')], ([], [('main', 'd', 'fault')]), []]
[counted(program, probes, counters(made, [], [0], 4), [("main", "c0")]), flagged(program, probes, counters(made, [], [0], 2), [("main", "d"), ("f", "c0")])]
# [[1, 1, 0], [('f', 'a', 'no'), ('main', 'd', 'waits'), ('f', 'c', 'stands')]]
overhead(program, probes, [1, 1, 0])
# (2, 2)
"""
EDITS = r"""
from fewprobes.compiler import compiled
from fewprobes.edits import carried, in_step, lots
from fewprobes.listings import listing, ranked, unrun_lines
from fewprobes.profiles import recorded
from fewprobes.readings import read_source
from fewprobes.runs import trace
old = ("program", [("main", [], [("a", [("read", "x")], ("test", "x", "b", "c")), ("b", [("print", "x")], ("go", "a")), ("c", [], ("return", "x"))])])
new = ("program", [("main", [], [("a", [("read", "x")], ("test", "x", "b", "c")), ("b", [("print", "x")], ("go", "d")), ("c", [], ("raise", "x")), ("d", [("read", "x")], ("test", "x", "b", "c"))])])
in_step(old, new)
# [('main', 'a', 'main', 'a', True), ('main', 'a', 'main', 'd', True), ('main', 'b', 'main', 'b', True), ('main', 'c', 'main', 'c', False)]
lots(old, new, recorded(old, trace(old, [], [5, 7, 0], 5)))
# [([('main', 'a', 'yes'), ('main', 'd', 'yes')], 2), ([('main', 'a', 'no'), ('main', 'd', 'no')], 1), ([('main', 'b', 'go')], 2), ([('main', 'c', 'raise')], 0)]
carried(old, ("program", [old[1][0], ("f", [], [("x", [], ("return", "x"))])]), recorded(old, trace(old, [], [5, 7], 9)))
# ('profile', 1, [2, 1, 2, 1, 0], [0, 0, 0, 0], [0, 0, 0, 0])
text = "fun main() {\n  read x; while x {\n    print x;\n    read x;\n  }\n  if x { print 9; }\n}\n"
listing(text, recorded(compiled(read_source(text)), trace(compiled(read_source(text)), [], [5] * 11, 99)))
# '    fun main() {\n 1:   read x; while x {\n11:     print x;\n11:     read x;\n      }\n 1:   if x { print 9; }\n    }\n'
unrun_lines(text, recorded(compiled(read_source(text)), trace(compiled(read_source(text)), [], [5], 99)))
# [6]
ranked(old, recorded(old, trace(old, [], [5, 7], 9)))[:3]
# [(2, ('main', 'a', 'yes')), (2, ('main', 'b', 'go')), (1, ('main', 'a', 'no'))]
"""
BENCH = r"""
from fewprobes.bench import Bench
pair = ("program", [("main", [], [("top", [("read", "x")], ("test", "x", "more", "done")), ("more", [], ("call", "y", "f", ("x",), "top")), ("done", [], ("return", "x"))]), ("f", ["a"], [("in", [], ("return", "a"))])])
bench = Bench(pair)
bench.choose([("f", "in", "return"), ("main", "done", "return")])
[bench.record([], [4, 5], 99), bench.record([], [6], 2), bench.takings()]
# [(('value', 0), [], []), (('on',), [('main', 'more'), ('f', 'in')], []), (2, [2, 1], [0, 1, 0, 0], [0, 0, 0, 1])]
[bench.sums(), bench.seen(), len(bench)]
# [[3, 1, 3, 2, 0, 1, 2], ['yes', 'yes', 'yes', 'yes', 'no', 'yes', 'yes'], 2]
bench.undo()
[bench.takings(), len(bench.log())]
# [(1, [2, 1], [0, 0, 0, 0], [0, 0, 0, 0]), 2]
"""


class Shown(unittest.TestCase):
    def check(self, text):
        names = {}
        lines = text.strip().split("\n")
        shown = 0
        for line, behind in zip(lines, lines[1:] + [""]):
            if line.startswith("# "):
                continue
            with self.subTest(line):
                if behind.startswith("# "):
                    self.assertEqual(repr(eval(line, names)), behind[2:])
                    shown += 1
                else:
                    exec(line, names)
        self.assertEqual(shown, sum(line.startswith("# ") for line in lines))
        self.assertGreater(shown, 2)

    def test_sources(self):
        self.check(SOURCES)

    def test_compiler(self):
        self.check(COMPILER)

    def test_profiles(self):
        self.check(PROFILES)

    def test_tallies(self):
        self.check(TALLIES)

    def test_probes(self):
        self.check(PROBES)

    def test_coverage(self):
        self.check(COVERAGE)

    def test_rebuild(self):
        self.check(REBUILD)

    def test_edits(self):
        self.check(EDITS)

    def test_bench(self):
        self.check(BENCH)
