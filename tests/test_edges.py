import copy
import unittest

from fewprobes.blocks import edges, is_program, led_to
from fewprobes.errors import InvalidEdge, InvalidProgram
from samples import full_program, many_words, odd_values, of_blocks


def led():
    """The edges of the full program in order, each with where it leads."""
    return [
        (("main", "top", "yes"), ("main", "job")),
        (("main", "top", "no"), ("main", "done")),
        (("main", "job", "call"), ("f", "top")),
        (("main", "job", "value"), ("main", "hold")),
        (("main", "job", "fault"), None),
        (("main", "hold", "call"), ("main", "top")),
        (("main", "hold", "value"), ("main", "top")),
        (("main", "hold", "fault"), ("main", "bad")),
        (("main", "bad", "raise"), None),
        (("main", "skip", "go"), ("main", "done")),
        (("main", "done", "return"), None),
        (("f", "top", "return"), None),
    ]


class Edges(unittest.TestCase):
    """[16]"""

    def test_functions_blocks_and_ways_in_order(self):
        self.assertEqual(edges(full_program()), [edge for edge, place in led()])

    def test_order_is_as_things_stand(self):
        blocks = [("z", [], ("go", "m")), ("m", [], ("test", "x", "z", "a")), ("a", [], ("go", "a"))]
        program = ("program", [("w", [], blocks), ("b", [], [("y", [], ("raise", "x"))])])
        self.assertEqual(edges(program), [
            ("w", "z", "go"), ("w", "m", "yes"), ("w", "m", "no"), ("w", "a", "go"), ("b", "y", "raise"),
        ])

    def test_both_ways_of_a_test_to_one_label(self):
        program = of_blocks([("a", [], ("test", "x", "a", "a"))])
        self.assertEqual(edges(program), [("main", "a", "yes"), ("main", "a", "no")])
        self.assertEqual([led_to(program, edge) for edge in edges(program)], [("main", "a")] * 2)

    def test_the_greatest_programs(self):
        blocks = [(label, [], ("call", "x", "f0", (), "w0")) for label in many_words(160)]
        program = ("program", [(name, [], blocks) for name in many_words(8, "f")])
        found = edges(program)
        self.assertEqual(len(found), 8 * 160 * 3)
        self.assertEqual(found[480:483], [("f1", "w0", "call"), ("f1", "w0", "value"), ("f1", "w0", "fault")])

    def test_each_edge_is_a_tuple_and_the_list_is_a_new_one(self):
        program = full_program()
        first = edges(program)
        self.assertIs(type(first), list)
        self.assertTrue(all(type(edge) is tuple for edge in first))
        first.clear()
        self.assertEqual(edges(program), [edge for edge, place in led()])
        self.assertIsNot(edges(program), edges(program))

    def test_refusals(self):
        for value in odd_values() + [of_blocks([]), of_blocks([("a", [], ("go", "b"))])]:
            with self.assertRaises(InvalidProgram) as caught:
                edges(value)
            self.assertIs(caught.exception.value, value)

    def test_by_name(self):
        self.assertEqual(len(edges(program=full_program())), 12)


class LedTo(unittest.TestCase):
    """[16]"""

    def test_where_each_edge_leads(self):
        program = full_program()
        for edge, place in led():
            with self.subTest(edge):
                self.assertEqual(led_to(program, edge), place)
                self.assertIn(type(led_to(program, edge)), (tuple, type(None)))

    def test_a_call_leads_to_the_first_block_whatever_its_label(self):
        called = [("q", [], ("go", "a")), ("a", [], ("return", "x"))]
        for end in [("call", "x", "f", (), "a"), ("try", "x", "f", (), "a", "y", "b")]:
            program = ("program", [("f", [], called), ("main", [], [("b", [], end), ("a", [], ("return", "x"))])])
            self.assertEqual(led_to(program, ("main", "b", "call")), ("f", "q"))
            self.assertEqual(led_to(program, ("main", "b", "value")), ("main", "a"))
        self.assertEqual(led_to(program, ("main", "b", "fault")), ("main", "b"))

    def test_labels_are_those_of_the_same_function(self):
        blocks = [("a", [], ("go", "b")), ("b", [], ("go", "a"))]
        program = ("program", [("f", [], blocks), ("g", [], blocks)])
        self.assertEqual(led_to(program, ("g", "a", "go")), ("g", "b"))
        self.assertEqual(led_to(program, ("f", "b", "go")), ("f", "a"))

    def test_what_is_no_edge_of_the_program(self):
        program = full_program()
        for edge in odd_values() + [
            ["main", "top", "yes"], ("main", "top", "go"), ("main", "top", "call"), ("main", "top", "return"),
            ("main", "job", "yes"), ("main", "job", "raise"), ("main", "bad", "return"), ("main", "done", "raise"),
            ("main", "hold", "waits"), ("main", "hold", "stands"), ("main", "top"), ("main", "top", "yes", "job"),
            ("main", "top", "Yes"), ("main", "top", None), ("main", "top", ["yes"]), ("f", "job", "call"),
            ("g", "top", "return"), ("main", "nowhere", "go"), (0, 0, "yes"), ("main", "top", ("yes",)),
            ("main", "top", True), (["main"], "top", "yes"), ("main", "skip", "yes"), ("top", "main", "yes"),
        ]:
            with self.subTest(repr(edge)[:80]):
                with self.assertRaises(InvalidEdge) as caught:
                    led_to(program, edge)
                self.assertIs(caught.exception.value, edge)

    def test_the_program_is_checked_first(self):
        edge = ["no edge"]
        for value in odd_values() + [of_blocks([("a", [], ("go", "b"))])]:
            with self.assertRaises(InvalidProgram) as caught:
                led_to(value, edge)
            self.assertIs(caught.exception.value, value)
            with self.assertRaises(InvalidProgram):
                led_to(value, ("main", "a", "go"))

    def test_nothing_that_is_handed_in_is_changed(self):
        program = full_program()
        before = copy.deepcopy(program)
        answers = [led_to(program, edge) for edge in edges(program)]
        with self.assertRaises(InvalidEdge):
            led_to(program, None)
        self.assertEqual(program, before)
        self.assertTrue(is_program(program))
        self.assertEqual([led_to(program, edge) for edge in edges(program)], answers)

    def test_by_name(self):
        self.assertEqual(led_to(edge=("main", "skip", "go"), program=full_program()), ("main", "done"))
