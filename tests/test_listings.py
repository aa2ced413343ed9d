import copy
import time
import unittest

from fewprobes.blocks import edges
from fewprobes.compiler import compiled, statement_counts
from fewprobes.errors import InvalidProfile, InvalidProgram, InvalidText
from fewprobes.listings import listing, ranked, unrun_lines
from fewprobes.profiles import merged, recorded
from fewprobes.readings import lines, read_source, written
from fewprobes.runs import trace
from makers import chance, some_program, some_source, some_way
from samples import odd_values

TEXT = "fun main() {\n  read x; while x {\n    print x;\n    read x;\n  }\n  if x { print 9; }\n}\n"


def profile_of(text, inputs, most=99):
    program = compiled(read_source(text))
    return recorded(program, trace(program, [], inputs, most))


class Refusing(unittest.TestCase):
    def refuses(self, kind, value, function, *arguments):
        with self.assertRaises(kind) as caught:
            function(*arguments)
        self.assertEqual(caught.exception.value, value)

    def test_texts_first(self):
        for function in [listing, unrun_lines]:
            for value in odd_values():
                if not isinstance(value, str):
                    with self.assertRaises(InvalidText) as caught:
                        function(value, None)
                    self.assertIs(caught.exception.value, value)
            for text, place in [("", (1, 1)), ("fun f() {\n  x = ;\n}", (2, 7)), ("fun f() {\n", (2, 1)),
                    ("fun f() { } }", (1, 13))]:
                self.refuses(InvalidText, place, function, text, None)

    def test_what_is_no_source_behind_texts(self):
        for function in [listing, unrun_lines]:
            for text in ["fun f() { leave; }", "fun f() { } fun f() { }", "fun f(a, a) { }", "fun f() { x = call g(); }"]:
                self.refuses(InvalidProgram, read_source(text), function, text, None)

    def test_profiles_last(self):
        right = profile_of(TEXT, [])
        for function in [listing, unrun_lines]:
            for value in odd_values() + [right[:4], list(right), profile_of("fun f() { }", [])]:
                with self.assertRaises(InvalidProfile) as caught:
                    function(TEXT, value)
                self.assertIs(caught.exception.value, value)

    def test_of_ranked(self):
        program = compiled(read_source(TEXT))
        for value in odd_values() + [("program", [])]:
            with self.assertRaises(InvalidProgram) as caught:
                ranked(value, None)
            self.assertIs(caught.exception.value, value)
        for value in odd_values() + [profile_of("fun f() { }", [])]:
            with self.assertRaises(InvalidProfile) as caught:
                ranked(program, value)
            self.assertIs(caught.exception.value, value)


class Listing(unittest.TestCase):
    """[51]"""

    def test_of_the_example(self):
        self.assertEqual(listing(TEXT, profile_of(TEXT, [5] * 11)), "    fun main() {\n 1:   read x; while x {\n"
            "11:     print x;\n11:     read x;\n      }\n 1:   if x { print 9; }\n    }\n")
        self.assertEqual(unrun_lines(TEXT, profile_of(TEXT, [5])), [6])
        self.assertEqual(unrun_lines(TEXT, profile_of(TEXT, [])), [3, 4, 6])
        self.assertEqual(unrun_lines(TEXT, profile_of(TEXT, [], 0)), [2, 3, 4, 6])

    def test_the_width_is_that_of_the_numbers_in_the_column(self):
        for inputs, first, second in [([], "1: ", "0: "), ([5] * 9, "1: ", "9: "), ([5] * 10, " 1: ", "10: "),
                ([5] * 100, "  1: ", "100: ")]:
            rows = listing(TEXT, profile_of(TEXT, inputs, 999)).split("\n")
            self.assertEqual([rows[1][:len(first)], rows[2][:len(second)]], [first, second])
            self.assertEqual(rows[0], " " * len(first) + "fun main() {")
            self.assertEqual(rows[-1], "")
        # The while in the second line was begun ten times and more, but is not the first there.
        text = "fun main() { read x; while x {\nread x; } }"
        self.assertEqual(listing(text, profile_of(text, [1] * 9)), "1: fun main() { read x; while x {\n9: read x; } }\n")

    def test_line_ends(self):
        for text, told in [
            ("fun f() { print 1; }", "1: fun f() { print 1; }\n"),
            ("fun f() { print 1; }\n", "1: fun f() { print 1; }\n"),
            ("fun f() { print 1; }\n\n", "1: fun f() { print 1; }\n   \n"),
            ("\nfun f() {\n\nprint 1\n; }\n ", "   \n   fun f() {\n   \n1: print 1\n   ; }\n    \n"),
            ("fun f() { print 1; } # print 2;\n# the end", "1: fun f() { print 1; } # print 2;\n   # the end\n"),
            ("\tfun f() {\tprint 1; }\n\t", "1: \tfun f() {\tprint 1; }\n   \t\n"),
        ]:
            self.assertEqual(listing(text, profile_of(text, [])), told)

    def test_no_statement(self):
        for text, told in [("fun f() { }", "  fun f() { }\n"), ("fun f() {\n}\n", "  fun f() {\n  }\n"),
                ("\n# none\nfun f() {\n\n}", "  \n  # none\n  fun f() {\n  \n  }\n")]:
            self.assertEqual(listing(text, profile_of(text, [])), told)
            self.assertEqual(unrun_lines(text, profile_of(text, [])), [])

    def test_statements_over_lines_count_where_they_begin(self):
        text = "fun main() { x\n=\n1; if x\n{ y = 2; } else\n{ z = 3; } }"
        self.assertEqual(listing(text, profile_of(text, [])),
            "1: fun main() { x\n   =\n1: 1; if x\n1: { y = 2; } else\n0: { z = 3; } }\n")
        self.assertEqual(unrun_lines(text, profile_of(text, [])), [5])
        self.assertEqual(unrun_lines(text, merged(compiled(read_source(text)), [])), [1, 3, 4, 5])

    def test_a_line_in_which_some_statement_was_never_begun(self):
        text = "fun main() { read x; if x { print 1; } }\nfun f() { print 2; print 3; }\n"
        self.assertEqual(unrun_lines(text, profile_of(text, [])), [1, 2])
        self.assertEqual(unrun_lines(text, profile_of(text, [1])), [2])
        self.assertEqual(listing(text, profile_of(text, [1])), "1: " + text.replace("\nfun", "\n0: fun"))

    def test_sources_made_by_chance(self):
        for seed in range(80):
            dice = chance(seed)
            source = some_source(dice)
            text = written(source)
            program = compiled(source)
            profile = merged(program, [recorded(program, some_way(program, dice, 12)[0]) for _ in range(dice.choice([1,
                20]))])
            numbers, first = statement_counts(source, profile), {}
            for line, many in zip(lines(text), numbers):
                first.setdefault(line, many)
            self.assertEqual(len(first), len(numbers))
            wide = max([len(str(many)) for many in numbers], default=0)
            told = listing(text, profile)
            self.assertTrue(told.endswith("\n"))
            for number, (row, shown) in enumerate(zip(text.split("\n")[:-1], told.split("\n")[:-1], strict=True), 1):
                self.assertEqual(shown[wide + 2:], row)
                self.assertEqual(shown[:wide + 2], f"{first[number]:>{wide}}: " if number in first
                    else " " * (wide + 2))
            self.assertEqual(unrun_lines(text, profile), sorted(line for line, many in zip(lines(text), numbers)
                if many == 0))


class Ranked(unittest.TestCase):
    """[51]"""

    def test_ties_stand_as_edges_has_them(self):
        program = compiled(read_source(TEXT))
        profile = profile_of(TEXT, [5, 5])
        rows = ranked(program, profile)
        self.assertEqual(sorted(rows, key=lambda row: (-row[0], edges(program).index(row[1]))), rows)
        self.assertEqual(rows[:2], [(2, ("main", "s1", "yes")), (2, ("main", "s2", "go"))])
        for seed in range(40):
            dice = chance(seed)
            program = some_program(dice)
            counts = [dice.choice([0, 1, 2, 10 ** 29]) for _ in edges(program)]
            many = sum(len(function[2]) for function in program[1])
            rows = ranked(program, ("profile", 0, counts, [0] * many, [0] * many))
            self.assertEqual(rows, sorted(zip(counts, edges(program)), key=lambda row: -row[0]))


class Plainness(unittest.TestCase):
    """[2], [3]"""

    def test_nothing_is_changed_and_all_is_new(self):
        program, profile = compiled(read_source(TEXT)), profile_of(TEXT, [])
        before = copy.deepcopy([program, profile])
        for call in [lambda: unrun_lines(TEXT, profile), lambda: ranked(program, profile)]:
            first = call()
            kept = list(first)
            first.clear()
            self.assertEqual(call(), kept)
        self.assertIsInstance(listing(TEXT, profile), str)
        self.assertEqual([program, profile], before)

    def test_arguments_by_their_names(self):
        profile = profile_of(TEXT, [])
        self.assertEqual(listing(text=TEXT, profile=profile), listing(TEXT, profile))
        self.assertEqual(unrun_lines(text=TEXT, profile=profile), [3, 4, 6])
        self.assertEqual(len(ranked(program=compiled(read_source(TEXT)), profile=profile)), 8)

    def test_great_texts_within_seconds(self):
        begin = time.perf_counter()
        rows = "".join(f"  if x {{ print {k}; }}\n" for k in range(19))
        text = "".join(f"fun {name}() {{\n{rows}}}\n" for name in "abcdefgh") + "# more\n" * 2000
        self.assertLess(len(text), 20001)
        program = compiled(read_source(text))
        profile = recorded(program, trace(program, [], [], 99))
        self.assertEqual(listing(text, profile).count("\n"), text.count("\n"))
        self.assertEqual(len(unrun_lines(text, profile)), 8 * 19)
        self.assertLess(time.perf_counter() - begin, 10)
