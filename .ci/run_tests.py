"""Runs all files test_*.py below the folders that are named, and tells how many tests passed and failed.

The first folder must hold a test; the others may be missing or hold none.
"""

import importlib.util
import pathlib
import sys
import traceback
import unittest

ROOT = pathlib.Path(__file__).resolve().parent.parent


class Result(unittest.TextTestResult):
    """A result that counts what passed, so that nothing else is taken for it."""

    def __init__(self, *given, **more):
        super().__init__(*given, **more)
        self.passed = 0

    def addSuccess(self, test):
        super().addSuccess(test)
        self.passed += 1

    def addExpectedFailure(self, test, err):
        super().addExpectedFailure(test, err)
        self.passed += 1


def loaded(path, number):
    """The tests of a file, loaded under a name of its own: two folders may hold files of one name."""
    name = f"{path.stem}_{number}"
    spec = importlib.util.spec_from_file_location(name, path)
    module = importlib.util.module_from_spec(spec)
    sys.modules[name] = module
    sys.path.insert(0, str(path.parent))
    try:
        spec.loader.exec_module(module)
    finally:
        sys.path.remove(str(path.parent))
    return unittest.defaultTestLoader.loadTestsFromModule(module)


def main(folders):
    sys.path.insert(0, str(ROOT))
    suite = unittest.TestSuite()
    unloaded = 0
    for number, folder in enumerate(folders):
        for path in sorted((ROOT / folder).rglob("test_*.py")):
            try:
                suite.addTests(loaded(path.resolve(), number))
            except (Exception, SystemExit):
                print(f"{path} can't be loaded:", file=sys.stderr)
                traceback.print_exc()
                unloaded += 1
        if number == 0 and suite.countTestCases() == 0:
            print(f"{folder} holds no test", file=sys.stderr)
            unloaded += 1
    runner = unittest.TextTestRunner(stream=sys.stderr, resultclass=Result)
    result = runner.run(suite)
    failed = unloaded + len(result.failures) + len(result.errors) + len(result.unexpectedSuccesses)
    skipped = f", {len(result.skipped)} skipped" if result.skipped else ""
    print(f"{result.passed} passed, {failed} failed{skipped}", flush=True)
    return 1 if failed else 0


if __name__ == "__main__":
    sys.exit(main(sys.argv[1:]))
