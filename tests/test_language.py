"""Rules of the language that a look at the text of the package can tell."""

import ast
import pathlib
import re
import unittest

PACKAGE = pathlib.Path(__file__).resolve().parent.parent / "nestfile"
FILES = sorted(PACKAGE.rglob("*"))
BUILTINS = {
    "len", "range", "enumerate", "zip", "min", "max", "sum", "abs", "sorted", "reversed", "int", "str", "bool", "list",
    "tuple", "dict", "set", "isinstance", "ord", "repr", "any", "all", "divmod", "iter", "next", "ValueError",
    "KeyError", "NotImplemented", "True", "False", "None"}
METHODS = {"__init__", "__eq__", "__len__", "__contains__"}
CALLED = {"append", "extend", "get", "index", "items", "join", "pop", "replace", "setdefault", "split", "values",
          "bit_length", "isascii", "isprintable", "translate"}
LIBRARY = {"itertools": {"accumulate"}}
WORDS = r"\b(type|typing|enum|Enum|Flag|Generic|Protocol|ABC|namedtuple|NamedTuple)\b|dataclass|overload|contextmanager"


def sources():
    return [(path, path.read_text("utf-8")) for path in FILES if path.suffix == ".py"]


def trees():
    return [(path, ast.parse(text)) for path, text in sources()]


def nodes(kind):
    return [(path, node) for path, tree in trees() for node in ast.walk(tree) if isinstance(node, kind)]


def own_methods():
    """The names of all methods of the package."""
    return {one.name for _, node in nodes(ast.ClassDef) for one in node.body if isinstance(one, ast.FunctionDef)}


def bound(tree):
    """All names that a file binds."""
    names = {node.id for node in ast.walk(tree) if isinstance(node, ast.Name) and not isinstance(node.ctx, ast.Load)}
    for node in ast.walk(tree):
        if isinstance(node, (ast.FunctionDef, ast.ClassDef)):
            names.add(node.name)
        if isinstance(node, ast.arg):
            names.add(node.arg)
        if isinstance(node, (ast.alias, ast.ExceptHandler)):
            names.add(node.name)
    return names


class TestLanguage(unittest.TestCase):
    def test_the_folder_holds_plain_files_alone(self):
        self.assertIn(PACKAGE / "__init__.py", FILES)
        for path in FILES:
            if path.name != "__pycache__" and path.parent.name != "__pycache__":
                self.assertRegex(path.name, r"^[a-z_]+\.py$")

    def test_sizes_and_characters(self):
        for path, text in sources():
            lines = text.split("\n")
            self.assertLessEqual(len(lines) - 1, 399, path)
            self.assertLessEqual(max(map(len, lines)), 120, path)
            self.assertRegex(text, r"^[ -~\n]*$", path)
        for path, node in nodes(ast.FunctionDef):
            self.assertLessEqual(node.end_lineno - node.lineno + 1, 40, (path, node.name))

    def test_imports(self):
        for path, node in nodes((ast.Import, ast.ImportFrom)):
            self.assertIsInstance(node, ast.ImportFrom, path)
            self.assertEqual([one.asname for one in node.names], [None] * len(node.names))
            if node.module in LIBRARY:
                self.assertLessEqual({one.name for one in node.names}, LIBRARY[node.module])
                continue
            self.assertRegex(node.module, r"^nestfile\.[a-z]+$")
            defined = bound(ast.parse((PACKAGE / (node.module.split(".")[1] + ".py")).read_text()))
            self.assertLessEqual({one.name for one in node.names}, defined)

    def test_no_two_files_import_from_each_other(self):
        links = {path.stem: set() for path, _ in sources()}
        for path, node in nodes(ast.ImportFrom):
            if node.module not in LIBRARY:
                links[path.stem].add(node.module.split(".")[1])
        while links:
            free = [name for name, needed in links.items() if not needed & set(links)]
            self.assertTrue(free, links)
            for name in free:
                del links[name]

    def test_builtins_and_own_names(self):
        import builtins
        for path, tree in trees():
            names = bound(tree)
            self.assertFalse(names & set(dir(builtins)), path)
            for node in ast.walk(tree):
                if isinstance(node, ast.Name) and isinstance(node.ctx, ast.Load):
                    self.assertIn(node.id, names | BUILTINS, path)

    def test_statements_and_expressions(self):
        banned = (ast.AsyncFunctionDef, ast.Global, ast.With, ast.GeneratorExp, ast.Yield, ast.YieldFrom,
                  ast.Div, ast.AnnAssign, ast.JoinedStr, ast.Starred, ast.Match)
        self.assertEqual(nodes(banned), [])
        for path, node in nodes(ast.Constant):
            self.assertNotIsInstance(node.value, (float, complex, bytes), path)
            if isinstance(node.value, str):
                self.assertNotIn("%", node.value, path)
                self.assertNotIn("__", node.value, path)
        for path, node in nodes((ast.FunctionDef, ast.ClassDef)):
            self.assertEqual(node.decorator_list, [], path)
            if node.name.startswith("__"):
                self.assertIn(node.name, METHODS)
        for path, node in nodes(ast.BinOp):
            if isinstance(node.op, ast.Pow):
                self.assertIsInstance(node.right, ast.Constant, path)

    def test_errors_are_caught_by_their_own_names(self):
        for path, node in nodes(ast.Try):
            self.assertEqual((node.orelse, node.finalbody), ([], []), path)
            for handler in node.handlers:
                self.assertIn(handler.type.id, {"NestError"}, path)

    def test_methods_that_are_called(self):
        known = CALLED | own_methods()
        for path, node in nodes(ast.Call):
            if isinstance(node.func, ast.Attribute):
                self.assertIn(node.func.attr, known, path)
                self.assertEqual(node.keywords, [], path)

    def test_local_names_are_not_those_of_classes_and_imports(self):
        for path, tree in trees():
            taken = {node.name for node in ast.walk(tree) if isinstance(node, ast.ClassDef)}
            taken |= {node.name for node in ast.walk(tree) if isinstance(node, ast.alias)}
            for node in ast.walk(tree):
                if isinstance(node, ast.FunctionDef):
                    self.assertFalse(taken & bound(ast.Module(node.body, [])), (path, node.name))
                    self.assertFalse(taken & {one.arg for one in ast.walk(node.args) if isinstance(one, ast.arg)}, path)

    def test_comparisons_by_is(self):
        for path, node in nodes(ast.Compare):
            for sign, other in zip(node.ops, node.comparators):
                if isinstance(sign, (ast.Is, ast.IsNot)):
                    self.assertIsInstance(other, ast.Constant, path)

    def test_each_attribute_is_assigned_by_a_class(self):
        assigned = {node.attr for _, node in nodes(ast.Attribute) if isinstance(node.ctx, ast.Store)}
        methods = own_methods()
        self.assertFalse(assigned & methods)
        for path, node in nodes(ast.Attribute):
            self.assertIn(node.attr, assigned | CALLED | methods, path)

    def test_words_that_do_not_occur(self):
        for path, tree in trees():
            for node in ast.walk(tree):
                if isinstance(node, (ast.Module, ast.FunctionDef, ast.ClassDef)) and ast.get_docstring(node):
                    node.body[0].value.value = ""
            self.assertIsNone(re.search(WORDS, ast.unparse(tree)), path)

    def test_modules_hold_definitions_alone(self):
        for path, tree in trees():
            for node in tree.body:
                plain = isinstance(node, ast.Expr) and isinstance(node.value, ast.Constant)
                known = isinstance(node, (ast.ImportFrom, ast.FunctionDef, ast.ClassDef, ast.Assign))
                self.assertTrue(plain or known, path)
        for path, node in nodes(ast.ClassDef):
            self.assertTrue(all(isinstance(one, (ast.FunctionDef, ast.Expr)) for one in node.body), path)


if __name__ == "__main__":
    unittest.main()
