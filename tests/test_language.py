"""The rules of LANGUAGE.md that can be read off a file by itself, each under its number."""

import ast
import builtins
import pathlib
import re
import unittest

PACKAGE = pathlib.Path(__file__).resolve().parent.parent / "fewprobes"
FILES = sorted(path for path in PACKAGE.rglob("*") if "__pycache__" not in path.parts and path.is_file())
TREES = {path: ast.parse(path.read_text(encoding="utf-8")) for path in FILES if path.suffix == ".py"}

LIBRARY = {
    "heapq": {"heappush", "heappop", "heapify", "heapreplace", "heappushpop"},
    "math": {"gcd", "lcm", "isqrt", "comb", "perm", "factorial"},
    "itertools": {"product", "combinations", "permutations", "chain", "accumulate", "pairwise", "islice",
                  "zip_longest"},
    "collections": {"defaultdict", "deque"},
    "__future__": {"annotations"},
}
BUILTINS = set("""
    len range enumerate zip min max sum abs sorted reversed int str bool bytes list tuple dict set frozenset isinstance
    ord repr any all divmod pow getattr hasattr setattr iter next map type super property staticmethod classmethod
    Exception ValueError TypeError KeyError IndexError LookupError ZeroDivisionError ArithmeticError OverflowError
    RuntimeError NotImplementedError AttributeError StopIteration NotImplemented object float
""".split())
METHODS = set("""
    append clear copy count endswith extend find get index insert isalnum isalpha isdigit islower isspace isupper items
    join keys ljust lower lstrip partition pop remove replace reverse rfind rjust rpartition rsplit rstrip setdefault
    split splitlines startswith strip update upper values zfill bit_length title capitalize swapcase casefold center
    expandtabs removeprefix removesuffix rindex isascii isdecimal isnumeric istitle isidentifier isprintable translate
    sort add discard appendleft popleft extendleft rotate from_iterable format __init__
""".split())
BARRED = set("""
    register mro elements open input law version_info with_traceback add_note attrgetter breakpoint compile copyright
    credits delattr dir eval exec exit gc globals help id importlib license locals methodcaller os quit vars sys
""".split())
UNWRITTEN = set("""
    type typing typing_extensions enum Enum IntEnum StrEnum Flag IntFlag Generic Protocol ABC ABCMeta namedtuple NamedTuple
    TypedDict TYPE_CHECKING abstractmethod
""".split())
STATEMENTS = (
    ast.Assign, ast.AugAssign, ast.AnnAssign, ast.If, ast.While, ast.For, ast.Return, ast.Break, ast.Continue, ast.Pass,
    ast.Raise, ast.Assert, ast.Delete, ast.Nonlocal, ast.Match, ast.With, ast.Try, ast.Expr, ast.FunctionDef,
    ast.ClassDef, ast.ImportFrom, ast.Global,
)


def bound_names(tree):
    """All names that a file binds: variables, parameters, functions, classes and imports."""
    for node in ast.walk(tree):
        if isinstance(node, ast.Name) and isinstance(node.ctx, ast.Store):
            yield node.id, node.lineno
        elif isinstance(node, ast.arg):
            yield node.arg, node.lineno
        elif isinstance(node, (ast.FunctionDef, ast.ClassDef)):
            yield node.name, node.lineno
        elif isinstance(node, ast.ImportFrom):
            for each in node.names:
                yield each.name, node.lineno


def plain(node):
    try:
        ast.literal_eval(node)
    except ValueError:
        return False
    return True


class Rules(unittest.TestCase):
    def each(self, *kinds):
        """Each node of these kinds in each file, with its place."""
        for path, tree in TREES.items():
            for node in ast.walk(tree):
                if isinstance(node, kinds):
                    yield node, f"{path.name}:{getattr(node, 'lineno', 0)}"

    def test_l1_l14_files(self):
        self.assertIn(PACKAGE / "__init__.py", TREES)
        self.assertLessEqual(len(FILES), 100)
        for path in FILES:
            self.assertEqual(path.suffix, ".py", path)
            if path.name not in ("__init__.py", "__main__.py"):
                self.assertRegex(path.stem, "^[a-z][a-z0-9_]*$")
                self.assertNotIn(path.stem, dir(builtins))
                self.assertFalse(path.stem.startswith("test") or path.stem.startswith("law_"), path)

    def test_l10_l14_sizes_and_characters(self):
        for path in TREES:
            text = path.read_bytes().decode("ascii")
            lines = text.split("\n")
            self.assertLessEqual(len(lines) - 1, 399, path)
            for number, line in enumerate(lines, 1):
                self.assertLessEqual(len(line), 120, f"{path}:{number}")
                self.assertTrue(all(" " <= sign <= "~" for sign in line), f"{path}:{number}")
        for node, place in self.each(ast.FunctionDef):
            self.assertLessEqual(node.end_lineno - node.lineno + 1, 40, place)

    def test_l2_l16_imports(self):
        led = {}
        for path, tree in TREES.items():
            module = f"fewprobes.{path.stem}"
            led[module] = set()
            for node in ast.walk(tree):
                self.assertNotIsInstance(node, ast.Import, path)
                if not isinstance(node, ast.ImportFrom):
                    continue
                self.assertIn(node, tree.body, f"{path}:{node.lineno}")
                self.assertEqual(node.level, 0)
                self.assertTrue(all(each.asname is None for each in node.names))
                if node.module in LIBRARY:
                    self.assertLessEqual({each.name for each in node.names}, LIBRARY[node.module])
                    continue
                self.assertRegex(node.module, r"^fewprobes\.[a-z][a-z0-9_]*$")
                led[module].add(node.module)
                other = TREES[PACKAGE / (node.module.split(".")[1] + ".py")]
                made = {each.name for each in other.body if isinstance(each, (ast.FunctionDef, ast.ClassDef))}
                made |= {each.targets[0].id for each in other.body if isinstance(each, ast.Assign)}
                self.assertLessEqual({each.name for each in node.names}, made, f"{path}:{node.lineno}")
        while led:
            free = [module for module, others in led.items() if not others & set(led)]
            self.assertTrue(free, f"these import from each other: {sorted(led)}")
            for module in free:
                del led[module]

    def test_l3_l15_module_level(self):
        for path, tree in TREES.items():
            bound = []
            for number, node in enumerate(tree.body):
                place = f"{path.name}:{node.lineno}"
                if isinstance(node, ast.Expr):
                    self.assertEqual(number, 0, place)
                    self.assertIsInstance(node.value.value, str, place)
                elif isinstance(node, ast.Assign):
                    self.assertEqual(len(node.targets), 1, place)
                    self.assertIsInstance(node.targets[0], ast.Name, place)
                    self.assertTrue(plain(node.value), place)
                    held = node.value.values if isinstance(node.value, ast.Dict) else getattr(node.value, "elts", [])
                    for inner in (inner for each in held for inner in ast.walk(each)):
                        self.assertNotIsInstance(inner, (ast.List, ast.Dict, ast.Set), place)
                    bound.append(node.targets[0].id)
                elif isinstance(node, ast.ImportFrom):
                    bound.extend(each.name for each in node.names)
                else:
                    self.assertIsInstance(node, (ast.FunctionDef, ast.ClassDef), place)
                    bound.append(node.name)
            self.assertEqual(len(bound), len(set(bound)), path)

    def test_l4_l5_l6_functions_classes_and_statements(self):
        for node, place in self.each(ast.stmt):
            self.assertIsInstance(node, STATEMENTS, place)
        for node, place in self.each(ast.FunctionDef):
            for each in node.decorator_list:
                word = each.attr if isinstance(each, ast.Attribute) else each.id
                self.assertIn(word, ["property", "staticmethod", "classmethod", "setter"], place)
        for node, place in self.each(ast.ClassDef):
            self.assertEqual(node.decorator_list, [], place)
            self.assertEqual(node.keywords, [], place)

    def test_l7_values(self):
        for node, place in self.each(ast.Constant):
            self.assertNotIsInstance(node.value, (float, complex), place)
        for node, place in self.each(ast.BinOp, ast.AugAssign):
            self.assertNotIsInstance(node.op, (ast.Div, ast.MatMult), place)

    def test_l8_builtins(self):
        for node, place in self.each(ast.Name):
            if isinstance(node.ctx, ast.Load) and node.id in dir(builtins):
                self.assertIn(node.id, BUILTINS, place)

    def test_l12_l15_l17_names(self):
        for path, tree in TREES.items():
            for name, line in bound_names(tree):
                place = f"{path.name}:{line} {name}"
                self.assertNotIn(name, BARRED, place)
                self.assertRegex(name, "^(_?[A-Za-z][A-Za-z0-9_]*|_|__[a-z]+__)$", place)
            methods = {each for node in ast.walk(tree) if isinstance(node, ast.ClassDef) for each in node.body}
            taken = {each.name for each in tree.body if isinstance(each, ast.ClassDef)}
            taken |= {each.name for node in tree.body if isinstance(node, ast.ImportFrom) for each in node.names}
            for node in ast.walk(tree):
                if isinstance(node, ast.FunctionDef) and node not in methods:
                    self.assertNotIn(node.name, dir(builtins), f"{path.name}:{node.lineno}")
                if isinstance(node, ast.Name) and isinstance(node.ctx, ast.Store) or isinstance(node, ast.arg):
                    name = node.id if isinstance(node, ast.Name) else node.arg
                    self.assertNotIn(name, dir(builtins), f"{path.name}:{node.lineno}")
                    self.assertNotIn(name, taken, f"{path.name}:{node.lineno}")

    def test_l19_errors(self):
        for node, place in self.each(ast.Raise):
            self.assertTrue(node.exc is None or isinstance(node.exc, ast.Call), place)
        for node, place in self.each(ast.ExceptHandler):
            self.assertIsNotNone(node.type, place)

    def test_l20_is(self):
        for node, place in self.each(ast.Compare):
            for op, right in zip(node.ops, node.comparators):
                if isinstance(op, (ast.Is, ast.IsNot)):
                    self.assertIsInstance(right, ast.Constant, place)
                    self.assertTrue(right.value is None or isinstance(right.value, bool), place)

    def test_l7_no_generator_expression_beside_an_eq(self):
        for node, place in self.each(ast.GeneratorExp, ast.Yield, ast.YieldFrom, ast.Await, ast.AsyncFor):
            self.fail(place)

    def test_l11_l15_nothing_at_module_level_is_changed_or_handed_on(self):
        for path, tree in TREES.items():
            held = {each.targets[0].id for each in tree.body if isinstance(each, ast.Assign)
                    and isinstance(each.value, (ast.List, ast.Dict))}
            read = [node for node in ast.walk(tree) if isinstance(node, ast.Name) and node.id in held
                    and isinstance(node.ctx, ast.Load)]
            right = [node.value for node in ast.walk(tree) if isinstance(node, (ast.Subscript, ast.Attribute))]
            right += [each for node in ast.walk(tree) if isinstance(node, ast.Compare) for each in node.comparators]
            for node in read:
                self.assertIn(node, right, f"{path.name}:{node.lineno} {node.id}")

    def test_l17_words_that_do_not_occur(self):
        for path in TREES:
            for number, line in enumerate(path.read_text(encoding="utf-8").split("\n"), 1):
                for word in re.findall("[A-Za-z_0-9]+", line.partition("#")[0]):
                    self.assertNotIn(word, UNWRITTEN, f"{path.name}:{number}")

    def test_l17_words_that_name_nothing(self):
        for node, place in self.each(ast.Name, ast.Attribute, ast.keyword, ast.arg):
            name = {ast.Name: "id", ast.Attribute: "attr"}.get(type(node), "arg")
            self.assertNotIn(getattr(node, name), BARRED | UNWRITTEN, place)

    def test_l18_l26_attributes(self):
        methods = {each.name for node, place in self.each(ast.ClassDef) for each in node.body
                   if isinstance(each, ast.FunctionDef)}
        made = {node.attr for node, place in self.each(ast.Attribute) if isinstance(node.ctx, ast.Store)}
        self.assertEqual(methods & made, set())
        taken = {name for kind in [str, list, dict, set, int, bytes, tuple] for name in dir(kind)}
        self.assertEqual((methods | made) & taken, {"__init__", "__eq__", "__len__", "__contains__", "copy"})
        for node, place in self.each(ast.Attribute):
            self.assertIn(node.attr, methods | made | METHODS, place)

    def test_l23_what_is_iterated_at_once_is_not_kept(self):
        for node, place in self.each(ast.Assign, ast.Return):
            if isinstance(node.value, ast.Call) and isinstance(node.value.func, ast.Name):
                self.assertNotIn(node.value.func.id, ["zip", "enumerate", "reversed", "map", "iter"], place)

    def test_l25_methods(self):
        own = {each.name for node, place in self.each(ast.ClassDef) for each in node.body
               if isinstance(each, ast.FunctionDef)}
        for node, place in self.each(ast.Call):
            if isinstance(node.func, ast.Attribute):
                self.assertIn(node.func.attr, METHODS | own, place)

    def test_l27_strings(self):
        for node, place in self.each(ast.Constant):
            if isinstance(node.value, str):
                self.assertNotIn("%", node.value, place)
                self.assertIsNone(re.search(r"\._{1,2}$|^__.*__$", node.value), place)
