"""The form of the package's own files: what LANGUAGE.md asks for and a walk through the syntax can see."""

import ast
import builtins
import pathlib
import re
import unittest

PACKAGE = pathlib.Path(__file__).resolve().parent.parent / "houserulesdesk"

STATEMENTS = (
    ast.FunctionDef, ast.ClassDef, ast.Assign, ast.AugAssign, ast.If, ast.While, ast.For, ast.Return, ast.Break,
    ast.Continue, ast.Pass, ast.Raise, ast.Try, ast.ImportFrom, ast.Expr,
)
EXPRESSIONS = (
    ast.Constant, ast.Name, ast.List, ast.Tuple, ast.Dict, ast.BinOp, ast.UnaryOp, ast.BoolOp, ast.Compare, ast.IfExp,
    ast.Call, ast.Attribute, ast.Subscript, ast.Slice, ast.ListComp, ast.Lambda, ast.JoinedStr, ast.FormattedValue,
)
FUNCTIONS = (
    "len range enumerate zip min max sum abs sorted reversed int str bool list tuple dict set isinstance ord repr any"
    " all divmod Exception ValueError KeyError IndexError LookupError ZeroDivisionError"
).split()
METHODS = (
    "append clear copy count endswith extend find get index insert isalnum isalpha isdigit islower isspace isupper"
    " items join keys ljust lower lstrip partition pop remove replace reverse rfind rjust rpartition rsplit rstrip"
    " setdefault split splitlines startswith strip update upper values zfill bit_length"
).split()
CHANGES = "append clear extend insert pop remove reverse setdefault update".split()
UNUSED_WORDS = (
    "type typing typing_extensions enum Enum IntEnum StrEnum Flag IntFlag Generic Protocol ABC ABCMeta namedtuple"
    " NamedTuple TypedDict TYPE_CHECKING abstractmethod"
).split()
UNUSED_NAMES = "register mro elements open input version_info with_traceback add_note format format_map".split()


def parse_files():
    return [(path.name, path.read_text(encoding="utf-8")) for path in sorted(PACKAGE.glob("*.py"))]


def bound_names(tree):
    """Every name that the file itself gives a meaning: defs, classes, parameters, locals, imports."""
    names = []
    for node in ast.walk(tree):
        if isinstance(node, (ast.FunctionDef, ast.ClassDef)):
            names.append(node.name)
        elif isinstance(node, ast.arg):
            names.append(node.arg)
        elif isinstance(node, ast.alias):
            names.append(node.asname or node.name)
        elif isinstance(node, ast.Name) and isinstance(node.ctx, ast.Store):
            names.append(node.id)
    return names


class Form(unittest.TestCase):
    def setUp(self):
        self.files = [(name, text, ast.parse(text)) for name, text in parse_files()]
        self.nodes = [(name, node) for name, text, tree in self.files for node in ast.walk(tree)]

    def where(self, name, node):
        return f"{name}:{node.lineno}"

    def test_only_plain_files_lie_in_the_package(self):
        found = [path for path in PACKAGE.iterdir() if path.name != "__pycache__"]
        self.assertTrue(all(path.is_file() and re.fullmatch(r"[a-z0-9_]+\.py", path.name) for path in found), found)
        self.assertIn(PACKAGE / "__init__.py", found)

    def test_sizes(self):
        for name, text, tree in self.files:
            rows = text.split("\n")
            self.assertLessEqual(len(rows), 401, name)
            self.assertLessEqual(max(len(row) for row in rows), 120, name)
            for node in ast.walk(tree):
                if isinstance(node, ast.FunctionDef):
                    self.assertLessEqual(node.end_lineno - node.lineno + 1, 40, self.where(name, node))

    def test_signs_and_words(self):
        for name, text, tree in self.files:
            self.assertEqual(re.findall(r"[^ -~\n]", text), [], name)
            for word in UNUSED_WORDS:
                self.assertIsNone(re.search(rf"\b{word}\b", text), f"{name}: {word}")
            for part in ("dataclass", "overload", "contextmanager"):
                self.assertNotIn(part, text, name)

    def test_statements_and_expressions(self):
        for name, node in self.nodes:
            if isinstance(node, ast.stmt):
                self.assertIsInstance(node, STATEMENTS, self.where(name, node))
            elif isinstance(node, ast.expr):
                self.assertIsInstance(node, EXPRESSIONS, self.where(name, node))
            if isinstance(node, ast.Assign):
                self.assertEqual(len(node.targets), 1, self.where(name, node))
            if isinstance(node, (ast.For, ast.While)):
                self.assertEqual(node.orelse, [], self.where(name, node))
            if isinstance(node, ast.ListComp):
                self.assertTrue(len(node.generators) == 1 and len(node.generators[0].ifs) <= 1, self.where(name, node))
            if isinstance(node, ast.BinOp):
                self.assertNotIsInstance(node.op, (ast.Div, ast.MatMult), self.where(name, node))

    def test_functions_and_classes(self):
        for name, node in self.nodes:
            if isinstance(node, (ast.FunctionDef, ast.ClassDef)):
                self.assertEqual(node.decorator_list, [], self.where(name, node))
            if isinstance(node, ast.FunctionDef):
                args = node.args
                odd = [args.vararg, args.kwarg] + args.kwonlyargs + args.posonlyargs
                self.assertEqual([arg for arg in odd if arg], [], self.where(name, node))
            if isinstance(node, ast.ClassDef):
                self.assertLessEqual(len(node.bases), 1, self.where(name, node))
                body = node.body[1:] if ast.get_docstring(node) else node.body
                self.assertTrue(all(isinstance(part, ast.FunctionDef) for part in body), self.where(name, node))

    def test_the_top_of_a_file(self):
        for name, text, tree in self.files:
            body = tree.body[1:] if ast.get_docstring(tree) else tree.body
            bound = []
            for node in body:
                self.assertIsInstance(node, (ast.ImportFrom, ast.FunctionDef, ast.ClassDef, ast.Assign), name)
                if isinstance(node, ast.Assign):
                    ast.literal_eval(node.value)
                    bound.append(node.targets[0].id)
                elif not isinstance(node, ast.ImportFrom):
                    bound.append(node.name)
            self.assertEqual(len(bound), len(set(bound)), name)

    def test_names(self):
        for name, text, tree in self.files:
            bound = bound_names(tree)
            for word in bound:
                self.assertRegex(word, r"\A([A-Za-z][A-Za-z0-9_]*|__init__)\Z", name)
                self.assertNotIn(word, vars(builtins), name)
                self.assertNotIn(word, UNUSED_NAMES, name)
            for node in ast.walk(tree):
                if isinstance(node, ast.Name) and node.id not in bound:
                    self.assertIn(node.id, FUNCTIONS, self.where(name, node))

    def test_methods_and_values(self):
        own = {name for source, text, tree in self.files for name in bound_names(tree)}
        stored = {node.attr for name, node in self.nodes
                  if isinstance(node, ast.Attribute) and isinstance(node.ctx, ast.Store)}
        called = {id(node.func) for name, node in self.nodes if isinstance(node, ast.Call)}
        for kind in (str, int, list, dict, set, bytes, tuple):
            self.assertEqual([name for name in stored if hasattr(kind, name)], [])
        for name, node in self.nodes:
            if isinstance(node, ast.Attribute):
                self.assertNotIn(node.attr, UNUSED_NAMES, self.where(name, node))
                if id(node) in called:
                    self.assertTrue(node.attr in METHODS or node.attr in own, self.where(name, node))
                else:
                    self.assertIn(node.attr, stored, self.where(name, node))

    def test_texts_and_comparisons(self):
        for name, node in self.nodes:
            if isinstance(node, ast.Constant):
                self.assertIsInstance(node.value, (int, str, bool, type(None)), self.where(name, node))
                self.assertNotIn("%", str(node.value), self.where(name, node))
            if isinstance(node, ast.Compare) and any(isinstance(op, (ast.Is, ast.IsNot)) for op in node.ops):
                self.assertIsInstance(node.comparators[0], ast.Constant, self.where(name, node))

    def test_what_a_loop_walks_is_not_changed_in_it(self):
        for name, node in self.nodes:
            if not isinstance(node, ast.For):
                continue
            walked = {ast.unparse(part) for part in ast.walk(node.iter) if isinstance(part, (ast.Name, ast.Attribute))}
            for part in ast.walk(node):
                if isinstance(part, ast.Call) and isinstance(part.func, ast.Attribute) and part.func.attr in CHANGES:
                    self.assertNotIn(ast.unparse(part.func.value), walked, self.where(name, part))
                if isinstance(part, ast.Subscript) and isinstance(part.ctx, ast.Store):
                    self.assertNotIn(ast.unparse(part.value), walked, self.where(name, part))

    def test_imports_are_the_packages_own(self):
        for name, node in self.nodes:
            if isinstance(node, ast.ImportFrom):
                self.assertTrue(node.level == 0 and node.module.startswith("houserulesdesk."), self.where(name, node))


if __name__ == "__main__":
    unittest.main()
