"""The form of the package's files: the part of Python that it keeps to."""

import ast
import builtins
import pathlib
import re
import unittest

FOLDER = pathlib.Path(__file__).resolve().parent.parent / "cacaoworks"
BUILTINS = """len range enumerate zip min max sum abs sorted reversed int str bool list tuple dict set frozenset
    isinstance ord repr any all divmod Exception ValueError TypeError KeyError IndexError LookupError
    ZeroDivisionError ArithmeticError OverflowError RuntimeError NotImplementedError AttributeError
    StopIteration""".split()
METHODS = """append clear copy count endswith extend find get index insert isalnum isalpha isdigit islower isspace
    isupper items join keys ljust lower lstrip partition pop remove replace reverse rfind rjust rpartition rsplit
    rstrip setdefault split splitlines startswith strip update upper values zfill bit_length""".split()
UNWRITTEN = """type typing typing_extensions enum Enum IntEnum StrEnum Flag IntFlag Generic Protocol ABC ABCMeta
    namedtuple NamedTuple TypedDict TYPE_CHECKING abstractmethod register mro elements open input version_info
    with_traceback add_note""".split()
SHOULD_BE_WALKED = ("zip", "enumerate", "reversed", "range", "items", "keys", "values")
WALKERS = "list tuple dict sorted sum any all enumerate zip min max".split()
NODES = (
    ast.Module, ast.FunctionDef, ast.arguments, ast.arg, ast.ClassDef, ast.Return, ast.Assign, ast.AugAssign, ast.For,
    ast.While, ast.If, ast.Raise, ast.Try, ast.ExceptHandler, ast.ImportFrom, ast.alias, ast.Expr, ast.Pass, ast.Break,
    ast.Continue, ast.BoolOp, ast.BinOp, ast.UnaryOp, ast.Lambda, ast.IfExp, ast.Dict, ast.ListComp, ast.comprehension,
    ast.Compare, ast.Call, ast.keyword, ast.Constant, ast.Attribute, ast.Subscript, ast.Name, ast.List, ast.Tuple,
    ast.Slice, ast.expr_context, ast.boolop, ast.operator, ast.unaryop, ast.cmpop,
)
OUT = (ast.Div, ast.MatMult, ast.Pow)


def files():
    return sorted(path for path in FOLDER.iterdir() if path.name != "__pycache__")


def parents(tree):
    return {child: node for node in ast.walk(tree) for child in ast.iter_child_nodes(node)}


def called(node):
    """The name of the function or method that is called."""
    if isinstance(node.func, ast.Name):
        return node.func.id
    return node.func.attr if isinstance(node.func, ast.Attribute) else ""


def bound(tree):
    """The names that parameters, locals and walks bind within functions."""
    names = [node.arg for node in ast.walk(tree) if isinstance(node, ast.arg)]
    for function in ast.walk(tree):
        if isinstance(function, ast.FunctionDef):
            names += [node.id for node in ast.walk(function)
                      if isinstance(node, ast.Name) and isinstance(node.ctx, ast.Store)]
    return names


class Form(unittest.TestCase):
    def each(self):
        for path in files():
            text = path.read_text(encoding="utf-8")
            yield path, text, ast.parse(text, path.name)

    def test_files(self):
        self.assertIn("__init__.py", [path.name for path in files()])
        for path in files():
            self.assertRegex(path.name, r"\A[a-z][a-z0-9_]*\.py\Z|\A__(init|main)__\.py\Z")
            self.assertFalse(path.stem.isalpha() and hasattr(builtins, path.stem), path.name)

    def test_signs_and_sizes(self):
        for path, text, tree in self.each():
            self.assertRegex(text, r"\A[ -~\n]*\Z")
            self.assertLessEqual(text.count("\n"), 400)
            self.assertLessEqual(max(len(line) for line in text.split("\n")), 120)
            for node in ast.walk(tree):
                if isinstance(node, ast.FunctionDef):
                    self.assertLessEqual(node.end_lineno - node.lineno + 1, 40, node.name)

    def test_words_that_are_not_written(self):
        for path, text, tree in self.each():
            self.assertEqual([word for word in re.findall(r"\w+", text) if word in UNWRITTEN], [])
            self.assertIsNone(re.search("dataclass|overload|contextmanager", text))

    def test_statements_and_expressions(self):
        for path, text, tree in self.each():
            for node in ast.walk(tree):
                self.assertIsInstance(node, NODES, ast.dump(node))
                self.assertNotIsInstance(node, OUT)
                if isinstance(node, ast.Expr):
                    self.assertTrue(isinstance(node.value, ast.Call) or node is tree.body[0], ast.unparse(node))
                if isinstance(node, (ast.For, ast.While)):
                    self.assertEqual(node.orelse, [])
                if isinstance(node, ast.Assign):
                    self.assertEqual(len(node.targets), 1)
                    self.assertNotIsInstance(node.targets[0], (ast.Tuple, ast.List))
                if isinstance(node, ast.ListComp):
                    self.assertEqual(len(node.generators), 1)
                    self.assertLessEqual(len(node.generators[0].ifs), 1)
                if isinstance(node, ast.Constant) and isinstance(node.value, str):
                    self.assertNotIn("\x25", node.value)
                if isinstance(node, ast.Constant):
                    self.assertIsInstance(node.value, (int, str, bool, type(None)))
                if isinstance(node, ast.Compare) and any(isinstance(op, (ast.Is, ast.IsNot)) for op in node.ops):
                    self.assertIsInstance(node.comparators[0], ast.Constant)

    def test_functions_and_classes(self):
        for path, text, tree in self.each():
            for node in ast.walk(tree):
                if isinstance(node, ast.FunctionDef):
                    self.assertEqual(node.decorator_list, [])
                    self.assertIsNone(node.returns)
                    self.assertIsNone(node.args.vararg or node.args.kwarg)
                    self.assertEqual(node.args.kwonlyargs + node.args.posonlyargs, [])
                if isinstance(node, ast.arg):
                    self.assertIsNone(node.annotation)
                if isinstance(node, ast.ClassDef):
                    self.assertIn(node, tree.body)
                    self.assertEqual(node.decorator_list, [])

    def test_the_top_of_a_file(self):
        for path, text, tree in self.each():
            names = []
            self.assertIsInstance(ast.get_docstring(tree), str)
            for node in tree.body[1:]:
                self.assertIsInstance(node, (ast.ImportFrom, ast.Assign, ast.FunctionDef, ast.ClassDef))
                if isinstance(node, ast.Assign):
                    names.append(node.targets[0].id)
                    inner = [part for part in ast.walk(node.value) if isinstance(part, (ast.List, ast.Dict))]
                    self.assertTrue(not inner or inner == [node.value])
                if isinstance(node, ast.ImportFrom):
                    names += [alias.name for alias in node.names]
                if isinstance(node, (ast.FunctionDef, ast.ClassDef)):
                    names.append(node.name)
            self.assertEqual(len(names), len(set(names)))

    def test_imports(self):
        drawn = {}
        for path, text, tree in self.each():
            drawn[path.stem] = []
            for node in ast.walk(tree):
                if isinstance(node, ast.ImportFrom):
                    self.assertEqual(node.level, 0)
                    package, stem = node.module.split(".")
                    self.assertEqual(package, "cacaoworks")
                    defined = ast.parse((FOLDER / (stem + ".py")).read_text()).body
                    names = [part.name for part in defined if isinstance(part, (ast.FunctionDef, ast.ClassDef))]
                    names += [part.targets[0].id for part in defined if isinstance(part, ast.Assign)]
                    for alias in node.names:
                        self.assertIn(alias.name, names)
                        self.assertIsNone(alias.asname)
                        self.assertEqual(text.count(alias.name) > 1, True, alias.name)
                    drawn[path.stem].append(stem)
        while drawn:
            free = [stem for stem, others in drawn.items() if not set(others) & set(drawn)]
            self.assertNotEqual(free, [], "files draw from one another")
            drawn = {stem: others for stem, others in drawn.items() if stem not in free}

    def test_names(self):
        for path, text, tree in self.each():
            taken = [alias.name for node in tree.body if isinstance(node, ast.ImportFrom) for alias in node.names]
            taken += [node.name for node in tree.body if isinstance(node, ast.ClassDef)]
            for name in bound(tree):
                self.assertNotIn(name, taken)
                self.assertFalse(hasattr(builtins, name), name)
                self.assertFalse(name.startswith("_"), name)
            defined = [node.name for node in ast.walk(tree) if isinstance(node, (ast.FunctionDef, ast.ClassDef))]
            defined += [node.id for node in ast.walk(tree) if isinstance(node, ast.Name)
                        and isinstance(node.ctx, ast.Store)]
            for node in ast.walk(tree):
                if isinstance(node, ast.Name) and isinstance(node.ctx, ast.Load) and hasattr(builtins, node.id):
                    self.assertIn(node.id, BUILTINS)
            for name in defined:
                self.assertTrue(name == "__init__" or not hasattr(builtins, name), name)

    def test_methods_and_values(self):
        methods, values = [], []
        for path, text, tree in self.each():
            for node in ast.walk(tree):
                if isinstance(node, ast.ClassDef):
                    methods += [part.name for part in node.body if isinstance(part, ast.FunctionDef)]
                    values += [part.attr for part in ast.walk(node) if isinstance(part, ast.Attribute)
                               and isinstance(part.ctx, ast.Store)]
        methods = set(methods) - {"__init__"}
        self.assertEqual(methods & set(values), set())
        for name in methods | set(values):
            for kind in (str, int, list, dict, set, bytes, tuple):
                self.assertFalse(hasattr(kind, name), name)
        for path, text, tree in self.each():
            for node in ast.walk(tree):
                if isinstance(node, ast.Attribute):
                    self.assertIn(node.attr, METHODS + sorted(methods) + values)

    def test_walked_at_once(self):
        for path, text, tree in self.each():
            above = parents(tree)
            for node in ast.walk(tree):
                if isinstance(node, ast.Call) and called(node) in SHOULD_BE_WALKED:
                    parent = above[node]
                    walked = isinstance(parent, (ast.For, ast.comprehension)) and parent.iter is node
                    handed = isinstance(parent, ast.Call) and called(parent) in WALKERS and parent.args[0] is node
                    self.assertTrue(walked or handed, ast.unparse(node))
                if isinstance(node, ast.Call) and called(node) in ("set", "frozenset"):
                    parent = above[node]
                    self.assertTrue(isinstance(parent, ast.Compare)
                                    or isinstance(parent, ast.Call) and called(parent) in ("sorted", "len"))


if __name__ == "__main__":
    unittest.main()
