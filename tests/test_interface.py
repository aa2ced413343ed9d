import importlib
import inspect
import unittest

ERRORS = ["InvalidProgram", "InvalidNumber", "InvalidList", "InvalidText", "InvalidEdge", "InvalidProfile",
          "InvalidFlag", "Unlike", "TooMany"]
FUNCTIONS = {
    "fewprobes.sources": {"is_source": ["value"], "how_many_statements": ["source"]},
    "fewprobes.words": {"is_word": ["value"]},
    "fewprobes.blocks": {
        "is_program": ["value"], "first_wrong": ["value"], "edges": ["program"], "led_to": ["program", "edge"],
    },
}


class TheInterface(unittest.TestCase):
    def test_functions_stand_in_their_files_with_their_arguments(self):
        for module, names in FUNCTIONS.items():
            for name, arguments in names.items():
                with self.subTest(module=module, name=name):
                    function = getattr(importlib.import_module(module), name)
                    self.assertTrue(inspect.isfunction(function))
                    self.assertEqual(function.__module__, module)
                    self.assertEqual(function.__name__, name)
                    parameters = inspect.signature(function).parameters.values()
                    self.assertEqual([each.name for each in parameters], arguments)
                    for each in parameters:
                        self.assertIs(each.kind, inspect.Parameter.POSITIONAL_OR_KEYWORD)
                        self.assertIs(each.default, inspect.Parameter.empty)

    def test_errors_stand_in_their_file_with_their_arguments(self):
        module = importlib.import_module("fewprobes.errors")
        for name in ERRORS:
            with self.subTest(name):
                kind = getattr(module, name)
                self.assertEqual(kind.__module__, "fewprobes.errors")
                self.assertIn("__init__", vars(kind))
                self.assertEqual(str(inspect.signature(kind)), "(value=None)")
        for name in ["ProbeError", "NothingToUndo", "NothingToRedo"]:
            with self.subTest(name):
                self.assertEqual(getattr(module, name).__module__, "fewprobes.errors")
                self.assertEqual(str(inspect.signature(getattr(module, name))), "()")
