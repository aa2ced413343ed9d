import importlib
import inspect
import unittest

ERRORS = ["InvalidProgram", "InvalidNumber", "InvalidList", "InvalidText", "InvalidEdge", "InvalidProfile",
          "InvalidFlag", "Unlike", "TooMany"]
FUNCTIONS = {
    "fewprobes.sources": {"is_source": ["value"], "how_many_statements": ["source"]},
    "fewprobes.sourceruns": {"source_run": ["source", "arguments", "inputs", "most"]},
    "fewprobes.readings": {"read_source": ["text"], "wrong_at": ["text"], "lines": ["text"], "written": ["source"]},
    "fewprobes.compiler": {
        "compiled": ["source"], "places": ["source"], "statements_gone": ["source", "way"],
        "statement_counts": ["source", "profile"],
    },
    "fewprobes.words": {"is_word": ["value"]},
    "fewprobes.blocks": {
        "is_program": ["value"], "first_wrong": ["value"], "edges": ["program"], "led_to": ["program", "edge"],
    },
    "fewprobes.through": {
        "is_way": ["program", "value"], "stack_behind": ["program", "way"], "leaves": ["program"],
        "live_edges": ["program"],
    },
    "fewprobes.runs": {
        "run": ["program", "arguments", "inputs", "most"], "trace": ["program", "arguments", "inputs", "most"],
        "counters": ["program", "arguments", "inputs", "most"], "counts": ["program", "way"],
    },
    "fewprobes.profiles": {
        "is_profile": ["program", "value"], "recorded": ["program", "way"], "merged": ["program", "profiles"],
        "without": ["program", "profile", "other"], "passes": ["program", "profile"], "begun": ["program", "profile"],
    },
    "fewprobes.balance": {
        "moves": ["program", "cuts"], "way_places": ["program", "cuts"], "tally": ["program", "ways", "cuts"],
        "edge_counts": ["program", "counts", "cuts"], "misfit": ["program", "counts", "cuts"],
        "is_tally": ["program", "value", "cuts"], "drawn_up": ["program", "counts", "cuts"],
        "full_tally": ["program", "cuts"],
    },
    "fewprobes.probes": {
        "is_enough": ["program", "probes", "cuts"], "paper": ["program", "probes", "edge", "cuts"],
        "is_paper": ["program", "probes", "edge", "value", "cuts"], "parted": ["program", "probes", "cuts"],
        "is_parting": ["program", "probes", "value", "cuts"], "needed": ["program", "cuts"],
        "least_probes": ["program", "prices", "cuts"], "is_least": ["program", "prices", "value", "cuts"],
        "cheaper": ["program", "prices", "probes", "cuts"],
        "told_back": ["program", "probes", "numbers", "waiting", "standing"],
    },
    "fewprobes.alive": {
        "marks": ["program"], "live": ["program", "gone", "cuts"], "shortest_way": ["program", "mark", "gone", "cuts"],
    },
    "fewprobes.coverage": {
        "is_coverage": ["program", "value", "cuts"], "ways_over": ["program", "covered", "cuts"],
        "implied": ["program", "mark", "cuts"],
    },
    "fewprobes.cover": {
        "is_shown": ["program", "probes", "edge", "cuts"], "unshown": ["program", "probes", "edge", "cuts"],
        "shows_all": ["program", "probes", "cuts"], "classes": ["program", "cuts"],
        "needed_classes": ["program", "cuts"], "least_cover": ["program", "prices", "cuts"],
    },
    "fewprobes.seen": {
        "seen_in": ["program", "probes", "profile"], "seen_back": ["program", "probes", "seen"],
        "fitting": ["program", "probes", "seen", "edge", "flag"],
    },
    "fewprobes.rebuild": {
        "rebuilt": ["program", "probes"], "meant": ["program", "probes", "stack"],
        "counted": ["program", "probes", "counters", "stack"], "flagged": ["program", "probes", "counters", "stack"],
        "overhead": ["program", "probes", "numbers"],
    },
    "fewprobes.edits": {
        "in_step": ["program", "other"], "lots": ["program", "other", "profile"],
        "carried": ["program", "other", "profile"],
    },
    "fewprobes.listings": {
        "listing": ["text", "profile"], "unrun_lines": ["text", "profile"], "ranked": ["program", "profile"],
    },
}
RUNNER = {
    "__init__": ["program", "arguments", "inputs"], "step": [], "go": ["most"], "stack": [], "printed": [], "trace": [],
    "counters": [], "copy": [], "__eq__": ["other"],
}
BENCH = {
    "__init__": ["program"], "program": [], "prices": [], "probes": [], "takings": [], "__len__": [],
    "__contains__": ["edge"], "price": ["edge", "price"], "choose": ["probes"], "choose_least": ["sums", "cuts"],
    "edit": ["program", "probes"], "record": ["arguments", "inputs", "most"], "record_way": ["way"],
    "take": ["other"], "sums": [], "seen": [], "undo": [], "redo": [], "log": [], "copy": [], "__eq__": ["other"],
}


class TheInterface(unittest.TestCase):
    def test_functions_stand_in_their_files_with_their_arguments(self):
        for module, names in FUNCTIONS.items():
            for name, arguments in names.items():
                with self.subTest(module=module, name=name):
                    function = getattr(importlib.import_module(module), name)
                    self.assertTrue(inspect.isfunction(function))
                    self.assertEqual(function.__module__, module)
                    self.assertEqual(function.__name__, name)
                    parameters = inspect.signature(function).parameters.values()
                    self.assertEqual([each.name for each in parameters], arguments)
                    for each in parameters:
                        self.assertIs(each.kind, inspect.Parameter.POSITIONAL_OR_KEYWORD)
                        self.assertIs(each.default, inspect.Parameter.empty)

    def test_errors_stand_in_their_file_with_their_arguments(self):
        module = importlib.import_module("fewprobes.errors")
        for name in ERRORS:
            with self.subTest(name):
                kind = getattr(module, name)
                self.assertEqual(kind.__module__, "fewprobes.errors")
                self.assertIn("__init__", vars(kind))
                self.assertEqual(str(inspect.signature(kind)), "(value=None)")
        for name in ["ProbeError", "NothingToUndo", "NothingToRedo"]:
            with self.subTest(name):
                self.assertEqual(getattr(module, name).__module__, "fewprobes.errors")
                self.assertEqual(str(inspect.signature(getattr(module, name))), "()")

    def test_runner_has_its_methods_in_its_own_body(self):
        self.check_class("fewprobes.runs", "Runner", RUNNER)

    def test_bench_has_its_methods_in_its_own_body(self):
        kind = self.check_class("fewprobes.bench", "Bench", BENCH)
        cuts = inspect.signature(kind.choose_least).parameters["cuts"]
        self.assertEqual([cuts.kind, cuts.default], [inspect.Parameter.KEYWORD_ONLY, True])

    def check_class(self, module, word, methods):
        kind = getattr(importlib.import_module(module), word)
        self.assertEqual([kind.__module__, kind.__bases__], [module, (object,)])
        for name, arguments in methods.items():
            with self.subTest(name):
                self.assertIn(name, vars(kind))
                self.assertEqual(list(inspect.signature(vars(kind)[name]).parameters), ["self", *arguments])
        return kind
