"""The package keeps to the rules of LANGUAGE.md, as far as a simple look at the code shows it.

The program needs much less than the rules allow, so that some tests here are narrower than the rules.
"""

import ast
import builtins
import pathlib
import re
import unittest

FOLDER = pathlib.Path(__file__).resolve().parent.parent / "cellguard"

BUILTINS = {"len", "range", "enumerate", "zip", "min", "max", "sum", "abs", "sorted", "reversed", "int", "str", "bool",
            "list", "tuple", "dict", "set", "isinstance", "any", "all", "divmod", "ValueError"}
METHODS = set("append clear copy count endswith extend find get index insert isalnum isalpha isdigit islower isspace "
              "isupper items join keys ljust lower lstrip partition pop remove replace reverse rfind rjust rpartition "
              "rsplit rstrip setdefault split splitlines startswith strip update upper values zfill bit_length".split())
MODIFYING = set("append clear extend insert pop remove reverse setdefault update sort".split())
STATEMENTS = (ast.FunctionDef, ast.ClassDef, ast.ImportFrom, ast.Assign, ast.AugAssign, ast.If, ast.While, ast.For,
              ast.Return, ast.Break, ast.Continue, ast.Pass, ast.Raise, ast.Delete, ast.Try, ast.Expr)
GENERATORS = {"all_counts"}
EXPRESSIONS = (ast.Constant, ast.Name, ast.Attribute, ast.Subscript, ast.Slice, ast.Call, ast.BinOp, ast.BoolOp,
               ast.UnaryOp, ast.Compare, ast.IfExp, ast.List, ast.Tuple, ast.Dict, ast.ListComp, ast.DictComp,
               ast.JoinedStr, ast.FormattedValue, ast.Starred)
NEVER = {"register", "mro", "elements", "open", "input", "law", "version_info", "with_traceback", "add_note",
         "attrgetter", "breakpoint", "builtins", "compile", "copyright", "credits", "delattr", "dir", "eval", "exec",
         "exit", "gc", "globals", "help", "id", "importlib", "license", "locals", "methodcaller", "os", "quit", "super",
         "type", "vars", "sys", "format", "format_map"}
WORDS = re.compile(r"\b(typing|typing_extensions|enum|Enum|IntEnum|StrEnum|Flag|IntFlag|Generic|Protocol|ABC|ABCMeta|"
                   r"namedtuple|NamedTuple|TypedDict|TYPE_CHECKING|abstractmethod|type|_wall|_WallAttr)\b|dataclass|"
                   r"overload|contextmanager")
LIBRARY = {"heapq": {"heappop", "heappush"}}
ITERATED = {"zip", "enumerate", "reversed", "range", "items", "keys", "values"}
ITERATING = {"list", "tuple", "dict", "sorted", "sum", "any", "all", "enumerate", "zip"}


def called(node):
    if isinstance(node, ast.Call):
        return getattr(node.func, "id", getattr(node.func, "attr", None))
    return None


class LanguageTest(unittest.TestCase):
    @classmethod
    def setUpClass(cls):
        cls.texts = {path.stem: path.read_text("utf-8") for path in sorted(FOLDER.glob("*.py"))}
        cls.trees = {name: ast.parse(text) for name, text in cls.texts.items()}

    def nodes(self, *kinds):
        for name, tree in self.trees.items():
            for node in ast.walk(tree):
                if isinstance(node, kinds):
                    yield f"{name}:{getattr(node, 'lineno', 0)}", node

    def test_files(self):
        found = sorted(path.name for path in FOLDER.iterdir() if path.name != "__pycache__")
        self.assertEqual(found, sorted(f"{name}.py" for name in self.texts))
        for name in self.texts:
            self.assertRegex(name, r"^(__init__|[a-z][a-z0-9_]*)$")

    def test_characters_and_sizes(self):
        for name, text in self.texts.items():
            self.assertEqual(set(text) - {chr(code) for code in range(32, 127)} - {"\n"}, set(), name)
            lines = text.split("\n")
            self.assertLessEqual(len(lines), 399, name)
            self.assertLessEqual(max(map(len, lines)), 120, name)
        for place, node in self.nodes(ast.FunctionDef):
            self.assertLessEqual(node.end_lineno - node.lineno + 1, 40, place)

    def test_words(self):
        for name, text in self.texts.items():
            code = ast.unparse(ast.parse(text))
            docstrings = re.sub(r'"""(.|\n)*?"""', "", code)
            self.assertIsNone(WORDS.search(docstrings), name)
            self.assertNotIn("_wall", text)

    def test_kinds_of_nodes(self):
        for place, node in self.nodes(ast.stmt):
            self.assertIsInstance(node, STATEMENTS, place)
        yields = {id(node.value) for _, node in self.nodes(ast.Expr) if isinstance(node.value, ast.Yield)}
        for place, node in self.nodes(ast.expr):
            if id(node) in yields:
                continue
            # A set stands in len(set(..)) only, which test_sets looks at.
            self.assertIsInstance(node, EXPRESSIONS, place)
        for place, node in self.nodes(ast.Div, ast.MatMult, ast.Pow, ast.GeneratorExp, ast.Lambda, ast.Set, ast.SetComp):
            self.fail(place)
        for place, node in self.nodes(ast.Constant):
            self.assertNotIsInstance(node.value, (float, complex, bytes, type(...)), place)
            if isinstance(node.value, str):
                self.assertNotRegex(node.value, r"%|__|\._$", place)

    def test_module_level(self):
        for name, tree in self.trees.items():
            bound = []
            for at, node in enumerate(tree.body):
                if isinstance(node, ast.Expr):
                    self.assertTrue(at == 0 and isinstance(node.value.value, str))
                elif isinstance(node, ast.ImportFrom):
                    bound += [alias.name for alias in node.names]
                elif isinstance(node, ast.Assign):
                    values = [node.value]
                    if isinstance(node.value, ast.Dict):
                        values = node.value.keys + node.value.values
                    for value in values:
                        self.assertIsInstance(ast.literal_eval(value), (int, str))
                    bound.append(node.targets[0].id)
                else:
                    self.assertIsInstance(node, (ast.FunctionDef, ast.ClassDef))
                    bound.append(node.name)
            self.assertEqual(len(bound), len(set(bound)), name)
        self.assertEqual(len(self.trees["__init__"].body), 1)

    def test_functions_and_classes(self):
        for place, node in self.nodes(ast.FunctionDef, ast.ClassDef):
            self.assertEqual(node.decorator_list, [], place)
        for place, node in self.nodes(ast.FunctionDef):
            for inner in ast.walk(node):
                self.assertFalse(inner is not node and isinstance(inner, (ast.FunctionDef, ast.ClassDef)), place)
            taken = node.args
            self.assertFalse(taken.vararg or taken.kwarg or taken.posonlyargs or taken.defaults, place)
            for default in taken.kw_defaults:
                self.assertTrue(default is None or isinstance(default, ast.Constant), place)
            if node.name.startswith("__"):
                self.assertEqual(node.name, "__init__", place)
                self.assertFalse(any(isinstance(inner, ast.Return) for inner in ast.walk(node)), place)
        for place, node in self.nodes(ast.ClassDef):
            self.assertLessEqual(len(node.bases), 1, place)
            for inner in node.body:
                self.assertIsInstance(inner, (ast.FunctionDef, ast.Expr), place)

    def test_imports(self):
        graph = {}
        for name, tree in self.trees.items():
            graph[name] = set()
            for node in ast.walk(tree):
                if isinstance(node, ast.ImportFrom):
                    self.assertEqual(node.level, 0)
                    if node.module in LIBRARY:
                        self.assertLessEqual({alias.name for alias in node.names}, LIBRARY[node.module])
                        continue
                    package, file = node.module.split(".")
                    self.assertEqual(package, "cellguard")
                    graph[name].add(file)
                    defined = [part.name for part in self.trees[file].body
                               if isinstance(part, (ast.FunctionDef, ast.ClassDef))]
                    for alias in node.names:
                        self.assertIsNone(alias.asname)
                        self.assertIn(alias.name, defined)
                        self.assertEqual(self.texts[name].count(alias.name) > 1, True, f"{name} {alias.name}")
        done = set()
        while len(done) < len(graph):
            free = {name for name in graph if name not in done and graph[name] <= done}
            self.assertTrue(free, "files import from each other")
            done |= free

    def test_names(self):
        for name, tree in self.trees.items():
            imports = {alias.name for node in ast.walk(tree) if isinstance(node, ast.ImportFrom) for alias in node.names}
            classes = {node.name for node in ast.walk(tree) if isinstance(node, ast.ClassDef)}
            for node in ast.walk(tree):
                stored = None
                if isinstance(node, ast.Name) and isinstance(node.ctx, ast.Store):
                    stored = node.id
                elif isinstance(node, ast.arg):
                    stored = node.arg
                if stored is not None:
                    self.assertNotIn(stored, imports | classes | NEVER | set(dir(builtins)), name)
                    self.assertRegex(stored, r"^(_|_?[A-Za-z][A-Za-z0-9_]*)$")
                if isinstance(node, ast.Name) and isinstance(node.ctx, ast.Load):
                    self.assertNotEqual(node.id, "_", name)
                    if node.id in dir(builtins):
                        self.assertIn(node.id, BUILTINS, name)
                if isinstance(node, ast.FunctionDef):
                    self.assertNotIn(node.name, NEVER)
                    self.assertNotIn(node.name, set(dir(builtins)))

    def test_attributes(self):
        methods = {node.name for _, node in self.nodes(ast.FunctionDef)}
        assigned = {node.attr for _, node in self.nodes(ast.Attribute) if isinstance(node.ctx, ast.Store)}
        in_classes = {part.name for _, node in self.nodes(ast.ClassDef) for part in node.body
                      if isinstance(part, ast.FunctionDef)}
        self.assertEqual(assigned & in_classes, set())
        self.assertEqual(assigned & METHODS, set())
        for place, node in self.nodes(ast.Attribute):
            self.assertIn(node.attr, METHODS | methods | assigned, place)
            self.assertNotIn(node.attr, NEVER, place)
            for kind in (str, int, list, dict, set, bytes, tuple):
                if node.attr in assigned:
                    self.assertFalse(hasattr(kind, node.attr), place)

    def test_calls(self):
        own = {node.name for _, node in self.nodes(ast.FunctionDef, ast.ClassDef)}
        library = set().union(*LIBRARY.values())
        for place, node in self.nodes(ast.Call):
            self.assertFalse(any(isinstance(part, ast.Starred) for part in node.args), place)
            self.assertTrue(node.keywords == [] or called(node) in own - METHODS, place)
            self.assertIn(called(node), own | METHODS | BUILTINS | library, place)

    def test_library(self):
        names = set().union(*LIBRARY.values())
        uses = {id(node.func) for _, node in self.nodes(ast.Call)}
        for place, node in self.nodes(ast.Name):
            if node.id in names:
                self.assertIn(id(node), uses, place)

    def test_sets(self):
        for place, node in self.nodes(ast.Call):
            if called(node) == "len" and called(node.args[0]) == "set":
                node.args[0].is_measured = True
        for place, node in self.nodes(ast.Call):
            if called(node) == "set":
                self.assertTrue(getattr(node, "is_measured", False), place)

    def test_iterated_at_once(self):
        at_once = set()
        for _, node in self.nodes(ast.For, ast.comprehension):
            at_once.add(id(node.iter))
        for _, node in self.nodes(ast.Call):
            if isinstance(node.func, ast.Name) and node.func.id in ITERATING:
                at_once |= {id(part) for part in node.args}
            if called(node) in ("min", "max") and len(node.args) == 1:
                at_once.add(id(node.args[0]))
            if called(node) == "reversed" and called(node.args[0]) == "range":
                at_once.add(id(node.args[0]))
        for place, node in self.nodes(ast.Call):
            if called(node) in ITERATED:
                self.assertTrue(id(node) in at_once, place)

    def test_generators(self):
        found = set()
        for place, node in self.nodes(ast.FunctionDef):
            if any(isinstance(inner, ast.Yield) for inner in ast.walk(node)):
                found.add(node.name)
                for inner in ast.walk(node):
                    self.assertNotIsInstance(inner, (ast.Try, ast.Return), place)
        self.assertEqual(found, GENERATORS)
        self.assertEqual(len([node for _, node in self.nodes(ast.FunctionDef) if node.name in GENERATORS]), len(GENERATORS))
        iterated = {id(node.iter) for _, node in self.nodes(ast.For)}
        calls = {id(node.func): node for _, node in self.nodes(ast.Call)}
        for place, node in self.nodes(ast.Name):
            if node.id in GENERATORS:
                self.assertIn(id(node), calls, place)
                self.assertIn(id(calls[id(node)]), iterated, place)

    def test_loops_do_not_modify_what_they_iterate_over(self):
        for place, loop in self.nodes(ast.For):
            parts = loop.iter.args if isinstance(loop.iter, ast.Call) else [loop.iter]
            over = {ast.unparse(part) for part in parts}
            for node in (inner for part in loop.body for inner in ast.walk(part)):
                if isinstance(node, ast.Call) and isinstance(node.func, ast.Attribute) and node.func.attr in MODIFYING:
                    self.assertNotIn(ast.unparse(node.func.value), over, place)
                if isinstance(node, ast.Subscript) and not isinstance(node.ctx, ast.Load):
                    self.assertNotIn(ast.unparse(node.value), over, place)
                if isinstance(node, ast.Name) and isinstance(node.ctx, ast.Store):
                    self.assertNotIn(node.id, over, place)

    def test_comparisons_by_is(self):
        for place, node in self.nodes(ast.Compare):
            for operator, right in zip(node.ops, node.comparators):
                if isinstance(operator, (ast.Is, ast.IsNot)):
                    self.assertIsInstance(right, ast.Constant, place)
                    self.assertIn(right.value, (None, True, False), place)

    def test_errors(self):
        own = {node.name for node in self.trees["errors"].body if isinstance(node, ast.ClassDef)}
        for place, node in self.nodes(ast.ExceptHandler):
            self.assertIn(node.type.id, own, place)
        for place, node in self.nodes(ast.Raise):
            self.assertIn(called(node.exc), own, place)


class ProgramTest(unittest.TestCase):
    def test_no_module_but_its_own(self):
        for path in FOLDER.glob("*.py"):
            for line in path.read_text("utf-8").splitlines():
                if re.match(r"\s*(import|from)\b", line):
                    self.assertRegex(line, r"^from (cellguard\.[a-z]+|heapq) import [A-Za-z_, ]+$", path.name)
