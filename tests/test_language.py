"""The package keeps to the part of Python that it is held to; the names of the tests tell the rules."""

import ast
import builtins
import pathlib
import re
import unittest

PACKAGE = pathlib.Path(__file__).resolve().parent.parent / "outlinetexts"
FILES = sorted(PACKAGE.glob("*.py"))

STATEMENTS = (ast.FunctionDef, ast.ClassDef, ast.Return, ast.Assign, ast.AugAssign, ast.For, ast.While, ast.If, ast.Raise,
              ast.Try, ast.ImportFrom, ast.Expr, ast.Pass, ast.Break, ast.Continue)
EXPRESSIONS = (ast.BoolOp, ast.BinOp, ast.UnaryOp, ast.IfExp, ast.Dict, ast.ListComp, ast.Compare, ast.Call, ast.JoinedStr,
               ast.FormattedValue, ast.Constant, ast.Attribute, ast.Subscript, ast.Name, ast.List, ast.Tuple, ast.Slice)
BUILT_IN = """len range enumerate zip min max sum abs sorted reversed int str bool list tuple dict set frozenset isinstance
    ord repr any all divmod Exception ValueError TypeError KeyError IndexError LookupError ZeroDivisionError
    ArithmeticError OverflowError RuntimeError NotImplementedError StopIteration""".split()
METHODS = """append clear copy count endswith extend find get index insert isalnum isalpha isdigit islower isspace isupper
    items join keys ljust lower lstrip partition pop remove replace reverse rfind rjust rpartition rsplit rstrip
    setdefault split splitlines startswith strip update upper values zfill bit_length""".split()
WORDS = """type typing typing_extensions enum Enum IntEnum StrEnum Flag IntFlag Generic Protocol ABC ABCMeta namedtuple
    NamedTuple TypedDict TYPE_CHECKING abstractmethod""".split()
UNUSED = """register mro elements open input version_info with_traceback add_note attrgetter breakpoint compile delattr dir
    eval exec exit gc getattr globals hasattr help id locals os quit setattr super sys vars format format_map""".split()


def walked():
    for path in FILES:
        for node in ast.walk(ast.parse(path.read_text("utf-8"))):
            yield path.name, node


def top_names(path):
    """The names that a file defines itself."""
    names = []
    for node in ast.parse(path.read_text("utf-8")).body:
        if isinstance(node, (ast.FunctionDef, ast.ClassDef)):
            names.append(node.name)
        if isinstance(node, ast.Assign):
            names.append(node.targets[0].id)
    return names


def imports(path):
    return [node for node in ast.parse(path.read_text("utf-8")).body if isinstance(node, ast.ImportFrom)]


def bound_names(node):
    """The parameters and the locals of a function."""
    names = [arg.arg for arg in node.args.args]
    names += [inner.id for inner in ast.walk(node) if isinstance(inner, ast.Name) and isinstance(inner.ctx, ast.Store)]
    return names + [inner.name for inner in ast.walk(node) if isinstance(inner, ast.ExceptHandler) and inner.name]


class Language(unittest.TestCase):
    def test_L1_L14_files_and_signs(self):
        for path in PACKAGE.iterdir():
            if path.name != "__pycache__":
                self.assertRegex(path.name, r"^([a-z][a-z0-9_]*|__init__)\.py$")
        for path in FILES:
            self.assertIsNone(re.search(rb"[^\n -~]", path.read_bytes()), path.name)

    def test_L2_L16_imports(self):
        drawn = {}
        for path in FILES:
            drawn[path.stem] = []
            for node in imports(path):
                package, module = node.module.split(".")
                self.assertEqual((package, node.level), ("outlinetexts", 0))
                drawn[path.stem].append(module)
                for alias in node.names:
                    self.assertIn(alias.name, top_names(PACKAGE / f"{module}.py"))
                    self.assertIsNone(alias.asname)
        while drawn:
            ends = [name for name, modules in drawn.items() if not any(module in drawn for module in modules)]
            self.assertTrue(ends, "files draw from one another")
            drawn = {name: modules for name, modules in drawn.items() if name not in ends}

    def test_L3_L15_the_top(self):
        for path in FILES:
            body = ast.parse(path.read_text("utf-8")).body
            self.assertIsInstance(body[0].value.value, str)
            for node in body[1:]:
                self.assertIsInstance(node, (ast.ImportFrom, ast.FunctionDef, ast.ClassDef, ast.Assign), path.name)
                if isinstance(node, ast.Assign):
                    ast.literal_eval(node.value)
            names = top_names(path) + [alias.name for node in imports(path) for alias in node.names]
            self.assertEqual(len(names), len(set(names)), path.name)

    def test_L4_L5_L10_functions_classes_and_sizes(self):
        for name, node in walked():
            if isinstance(node, (ast.FunctionDef, ast.ClassDef)):
                self.assertEqual(node.decorator_list, [])
                self.assertIsNotNone(ast.get_docstring(node) or node.name == "__init__" or None, (name, node.name))
            if isinstance(node, ast.FunctionDef):
                self.assertLessEqual(node.end_lineno - node.lineno + 1, 40, (name, node.name))
                self.assertFalse(node.args.vararg or node.args.kwarg or node.args.kwonlyargs or node.args.posonlyargs)
        for path in FILES:
            lines = path.read_text("utf-8").split("\n")
            self.assertLessEqual(len(lines), 400)
            self.assertLessEqual(max(len(line) for line in lines), 120)

    def test_L6_L7_statements_and_expressions(self):
        for name, node in walked():
            if isinstance(node, ast.stmt):
                self.assertIsInstance(node, STATEMENTS, (name, node))
            if isinstance(node, ast.expr):
                self.assertIsInstance(node, EXPRESSIONS, (name, node))
            if isinstance(node, ast.Constant):
                self.assertIn(type(node.value), (int, str, bool, type(None)), name)
            if isinstance(node, ast.Assign):
                self.assertEqual(len(node.targets), 1)
                self.assertNotIsInstance(node.targets[0], ast.Tuple)
            if isinstance(node, (ast.For, ast.While)):
                self.assertEqual(node.orelse, [])
            self.assertNotIsInstance(node, (ast.Div, ast.Is, ast.IsNot))

    def test_L8_L12_L17_names_and_words(self):
        for name, node in walked():
            if isinstance(node, ast.Name) and hasattr(builtins, node.id):
                self.assertIn(node.id, BUILT_IN, name)
            word = getattr(node, "id", None) or getattr(node, "attr", None) or getattr(node, "name", None)
            if isinstance(word, str) and word != "__init__":
                self.assertRegex(word, r"^[A-Za-z][A-Za-z0-9_]*$", name)
                self.assertNotIn(word, UNUSED, name)
        for path in FILES:
            for word in re.findall(r"\w+", path.read_text("utf-8")):
                self.assertNotIn(word, WORDS, path.name)

    def test_L15_locals(self):
        for path in FILES:
            taken = top_names(path) + [alias.name for node in imports(path) for alias in node.names]
            for node in ast.walk(ast.parse(path.read_text("utf-8"))):
                if isinstance(node, ast.FunctionDef):
                    for name in bound_names(node):
                        self.assertNotIn(name, taken, (path.name, node.name))
                        self.assertFalse(hasattr(builtins, name), (path.name, node.name, name))

    def test_L18_L25_L26_methods_and_values(self):
        own = {inner.name for _, node in walked() if isinstance(node, ast.ClassDef) for inner in node.body
               if isinstance(inner, ast.FunctionDef)}
        values = {node.attr for _, node in walked() if isinstance(node, ast.Attribute) and isinstance(node.ctx, ast.Store)}
        self.assertEqual(own & values, set())
        for kind in (str, int, list, dict, set, bytes, tuple):
            self.assertEqual({name for name in own | values if hasattr(kind, name)} - {"__init__"}, set())
        for name, node in walked():
            if isinstance(node, ast.Call) and isinstance(node.func, ast.Attribute):
                self.assertIn(node.func.attr, [*METHODS, *own], name)

    def test_L19_own_errors_are_taken(self):
        own = {node.name for _, node in walked() if isinstance(node, ast.ClassDef)}
        for name, node in walked():
            if isinstance(node, ast.ExceptHandler):
                self.assertIn(node.type.id, own, name)
            if isinstance(node, ast.Raise):
                self.assertIn(node.exc.func.id, own, name)

    def test_L13_L21_L22_L24_L27_L28_what_is_not_needed_is_not_there(self):
        for name, node in walked():
            self.assertNotIsInstance(node, (ast.Set, ast.Lambda, ast.Pow, ast.Mod, ast.keyword, ast.Starred), name)
            if isinstance(node, ast.Name):
                self.assertNotIn(node.id, ("set", "frozenset", "chr"), name)
            if isinstance(node, ast.FunctionDef):
                self.assertIsNone(node.returns)
                self.assertEqual([arg for arg in node.args.args if arg.annotation], [])
                self.assertTrue(node.name == "__init__" or "__" not in node.name, node.name)
            if isinstance(node, ast.Constant) and isinstance(node.value, str):
                self.assertNotIn("%", node.value, name)

    def test_L23_walked_at_once(self):
        for name, node in walked():
            if isinstance(node, (ast.Assign, ast.Return)) and isinstance(node.value, ast.Call):
                called = getattr(node.value.func, "id", None)
                self.assertNotIn(called, ("zip", "enumerate", "reversed", "range"), name)


if __name__ == "__main__":
    unittest.main()
