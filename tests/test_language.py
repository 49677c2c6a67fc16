"""The package's files keep to the part of Python that the project allows, as far as a look at their trees can tell."""

import ast
import builtins
import pathlib
import re
import unittest

PACKAGE = pathlib.Path(__file__).resolve().parent.parent / "hangson"

STATEMENTS = (ast.Assign, ast.AugAssign, ast.If, ast.While, ast.For, ast.Return, ast.Break, ast.Continue, ast.Pass, ast.Raise,
              ast.Try, ast.Expr, ast.FunctionDef, ast.ClassDef, ast.ImportFrom)
EXPRESSIONS = (ast.Constant, ast.Name, ast.List, ast.Tuple, ast.Dict, ast.BinOp, ast.UnaryOp, ast.Compare, ast.BoolOp, ast.IfExp,
               ast.Call, ast.Attribute, ast.Subscript, ast.Slice, ast.ListComp, ast.Lambda)
OPERATORS = (ast.Add, ast.Sub, ast.Mult, ast.FloorDiv, ast.Mod, ast.LShift, ast.RShift, ast.BitOr, ast.BitAnd, ast.BitXor)
OWN_NAMES = """len range enumerate zip min max sum abs sorted reversed int str bool list tuple dict set isinstance ord repr any all
    divmod Exception ValueError KeyError""".split()
METHODS = """append clear copy count endswith extend find get index insert isalnum isalpha isdigit islower isspace isupper items
    join keys ljust lower lstrip partition pop remove replace reverse rfind rjust rpartition rsplit rstrip setdefault split
    splitlines startswith strip update upper values zfill bit_length""".split()
WALKED = ("zip", "enumerate", "reversed", "range")
WALKERS = ("list", "tuple", "dict", "sorted", "sum", "any", "all", "enumerate", "zip", "min", "max")
BANNED_WORDS = """type typing typing_extensions enum Enum IntEnum StrEnum Flag IntFlag Generic Protocol ABC ABCMeta namedtuple
    NamedTuple TypedDict TYPE_CHECKING abstractmethod""".split()
BANNED_NAMES = """register mro elements open input version_info with_traceback add_note attrgetter breakpoint builtins compile
    copyright credits delattr dir eval exec exit gc getattr globals hasattr help id importlib license locals methodcaller os quit
    setattr super type vars sys chr format format_map""".split()
VALUE_METHODS = {name for kind in (str, int, list, tuple, dict, set, frozenset, bytes) for name in dir(kind)}


class File:
    def __init__(self, path):
        self.path = path
        self.source = path.read_text("utf-8")
        self.tree = ast.parse(self.source)
        self.nodes = list(ast.walk(self.tree))
        self.parents = {child: node for node in self.nodes for child in ast.iter_child_nodes(node)}

    def of(self, *kinds):
        return [node for node in self.nodes if isinstance(node, kinds)]

    def functions(self):
        return self.of(ast.FunctionDef)

    def bound_locally(self):
        """Names of parameters and of locals."""
        names = [argument.arg for argument in self.of(ast.arg)]
        names += [handler.name for handler in self.of(ast.ExceptHandler) if handler.name]
        top = [target for node in self.tree.body if isinstance(node, ast.Assign) for target in node.targets]
        return names + [node.id for node in self.of(ast.Name) if isinstance(node.ctx, ast.Store) and node not in top]

    def imported(self):
        return [alias.name for node in self.of(ast.ImportFrom) for alias in node.names]


FILES = [File(path) for path in sorted(PACKAGE.rglob("*.py"))]


class Language(unittest.TestCase):
    def each(self, test):
        for file in FILES:
            with self.subTest(file=file.path.name):
                test(file)

    def hold(self, holds, file, node):
        self.assertTrue(holds, f"{file.path.name}:{getattr(node, 'lineno', 0)}: {ast.dump(node)[:200]}")

    def test_files(self):
        self.assertTrue(FILES)
        for path in PACKAGE.rglob("*"):
            if "__pycache__" not in path.parts:
                self.assertRegex(path.name, r"^([a-z][a-z0-9_]*|__init__)\.py$")
                self.assertNotIn(path.stem, dir(builtins))

    def test_size_and_signs(self):
        def look(file):
            lines = file.source.split("\n")
            self.assertLessEqual(len(lines), 400)
            self.assertRegex(file.source, r"\A[ -~\n]*\Z")
            self.assertLessEqual(max(len(line) for line in lines), 120)
            for node in file.functions():
                self.hold(node.end_lineno - node.lineno < 40, file, node)
        self.each(look)

    def test_top_of_a_module(self):
        def look(file):
            for node in file.tree.body:
                self.hold(isinstance(node, (ast.Expr, ast.ImportFrom, ast.FunctionDef, ast.ClassDef, ast.Assign)), file, node)
                if isinstance(node, ast.Expr):
                    self.hold(isinstance(node.value, ast.Constant), file, node)
                if isinstance(node, ast.Assign):
                    ast.literal_eval(node.value)
            bound = [node.name for node in file.tree.body if isinstance(node, (ast.FunctionDef, ast.ClassDef))]
            bound += [target.id for node in file.tree.body if isinstance(node, ast.Assign) for target in node.targets]
            bound += file.imported()
            self.assertEqual(len(bound), len(set(bound)))
        self.each(look)

    def test_imports(self):
        drawn = {}

        def look(file):
            name = "hangson." + file.path.stem
            drawn[name] = []
            for node in file.of(ast.ImportFrom):
                self.hold(node.level == 0 and node.module.startswith("hangson.") and node in file.tree.body, file, node)
                drawn[name].append(node.module)
                source = [other for other in FILES if "hangson." + other.path.stem == node.module][0]
                for alias in node.names:
                    defined = [n.name for n in source.tree.body if isinstance(n, (ast.FunctionDef, ast.ClassDef))]
                    defined += [t.id for n in source.tree.body if isinstance(n, ast.Assign) for t in n.targets]
                    self.assertIn(alias.name, defined)
                    self.assertIsNone(alias.asname)
                    used = [n.id for n in file.of(ast.Name)]
                    self.assertIn(alias.name, used)
        self.each(look)
        while drawn:
            free = [name for name in drawn if not any(other in drawn for other in drawn[name])]
            self.assertTrue(free, f"files draw from one another: {drawn}")
            for name in free:
                drawn.pop(name)

    def test_functions_and_classes(self):
        def look(file):
            for node in file.of(ast.FunctionDef, ast.ClassDef):
                self.hold(not node.decorator_list, file, node)
            for node in file.of(ast.arguments):
                self.hold(not (node.vararg or node.kwarg or node.kwonlyargs or node.posonlyargs), file, node)
            for node in file.of(ast.arg):
                self.hold(node.annotation is None, file, node)
            for node in file.of(ast.ClassDef):
                self.hold(node in file.tree.body and len(node.bases) <= 1 and not node.keywords, file, node)
                for inner in node.body:
                    self.hold(isinstance(inner, (ast.FunctionDef, ast.Expr)), file, inner)
                names = [inner.name for inner in node.body if isinstance(inner, ast.FunctionDef)]
                self.assertEqual(len(names), len(set(names)))
        self.each(look)

    def test_statements_and_expressions(self):
        def look(file):
            for node in file.of(ast.stmt):
                self.hold(isinstance(node, STATEMENTS), file, node)
            for node in file.of(ast.expr):
                self.hold(isinstance(node, EXPRESSIONS), file, node)
            for node in file.of(ast.operator):
                self.hold(isinstance(node, OPERATORS), file, node)
            for node in file.of(ast.Assign):
                plain = isinstance(node.targets[0], (ast.Name, ast.Attribute, ast.Subscript))
                self.hold(len(node.targets) == 1 and plain, file, node)
            for node in file.of(ast.For, ast.While):
                self.hold(not node.orelse, file, node)
            for node in file.of(ast.Try):
                self.hold(not node.finalbody and all(handler.type for handler in node.handlers), file, node)
            for node in file.of(ast.Expr):
                self.hold(isinstance(node.value, (ast.Call, ast.Constant)), file, node)
            for node in file.of(ast.comprehension):
                self.hold(len(node.ifs) <= 1 and not node.is_async, file, node.iter)
            for node in file.of(ast.ListComp):
                self.hold(len(node.generators) == 1, file, node)
            for node in file.of(ast.Constant):
                self.hold(node.value is None or isinstance(node.value, (bool, int, str)), file, node)
                self.hold(not isinstance(node.value, str) or "%" not in node.value, file, node)
            for node in file.of(ast.Compare):
                for operator, right in zip(node.ops, node.comparators):
                    if isinstance(operator, (ast.Is, ast.IsNot)):
                        self.hold(isinstance(right, ast.Constant) and right.value in (None, True, False), file, node)
        self.each(look)

    def test_names(self):
        def look(file):
            defined = [node.id for node in file.of(ast.Name) if isinstance(node.ctx, ast.Store)]
            defined += [node.name for node in file.of(ast.FunctionDef, ast.ClassDef)]
            defined += [node.arg for node in file.of(ast.arg)] + [node.attr for node in file.of(ast.Attribute)]
            for name in defined:
                self.assertTrue(re.fullmatch("[A-Za-z][A-Za-z0-9_]*", name) or name == "__init__", name)
                self.assertNotIn(name, BANNED_NAMES)
            for node in file.of(ast.Name):
                if hasattr(builtins, node.id):
                    self.hold(node.id in OWN_NAMES, file, node)
            classes = [node.name for node in file.of(ast.ClassDef)]
            for name in file.bound_locally():
                self.assertFalse(hasattr(builtins, name), name)
                self.assertNotIn(name, classes + file.imported())
            for word in re.findall("[A-Za-z_]+", file.source):
                self.assertNotIn(word, BANNED_WORDS)
                self.assertNotRegex(word, "dataclass|overload|contextmanager")
        self.each(look)

    def test_methods_and_values(self):
        methods = [inner.name for file in FILES for node in file.of(ast.ClassDef) for inner in node.body
                   if isinstance(inner, ast.FunctionDef) and inner.name != "__init__"]
        values = [node.attr for file in FILES for node in file.of(ast.Attribute) if isinstance(node.ctx, ast.Store)]
        self.assertEqual(set(methods) & set(values), set())
        for name in methods + values:
            self.assertNotIn(name, VALUE_METHODS)

        def look(file):
            for node in file.of(ast.Attribute):
                called = isinstance(file.parents[node], ast.Call) and file.parents[node].func is node
                if node.attr in values:
                    self.hold(not called, file, node)
                else:
                    self.hold(called and node.attr in methods + METHODS + ["__init__"], file, node)
        self.each(look)

    def test_sets_and_walks(self):
        def look(file):
            for node in file.of(ast.Call):
                name = node.func.id if isinstance(node.func, ast.Name) else ""
                parent = file.parents[node]
                within = parent.func.id if isinstance(parent, ast.Call) and isinstance(parent.func, ast.Name) else ""
                if name == "set":
                    self.hold(within in ("len", "sorted") or isinstance(parent, ast.Compare), file, node)
                if name in WALKED:
                    walked = isinstance(parent, (ast.For, ast.comprehension)) and parent.iter is node
                    self.hold(walked or within in WALKERS, file, node)
                self.hold(not node.keywords or name in ("sorted", "min", "max", "zip", "enumerate", "sum"), file, node)
        self.each(look)


if __name__ == "__main__":
    unittest.main()
