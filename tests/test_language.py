"""The package keeps to its part of Python: those rules of it that can be read off the files."""
import ast
import builtins
import pathlib
import re
import subprocess
import sys
import unittest

PACKAGE = pathlib.Path(__file__).resolve().parent.parent / "plaingraphs"
FILES = sorted(path for path in PACKAGE.rglob("*") if "__pycache__" not in path.parts)

STATEMENTS = (ast.FunctionDef, ast.Return, ast.Assign, ast.AugAssign, ast.For, ast.While, ast.If, ast.Expr,
              ast.Break, ast.Continue, ast.Pass)
EXPRESSIONS = (ast.BoolOp, ast.BinOp, ast.UnaryOp, ast.IfExp, ast.Compare, ast.Call, ast.Attribute, ast.Subscript,
               ast.Slice, ast.Name, ast.Constant, ast.List, ast.Tuple, ast.Dict, ast.ListComp, ast.Lambda)
OWN_NAMES = {"len", "range", "enumerate", "zip", "min", "max", "sum", "abs", "sorted", "reversed", "int", "str", "bool",
             "list", "tuple", "dict", "isinstance", "ord", "repr", "any", "all", "divmod"}
METHODS = {"append", "clear", "copy", "count", "extend", "get", "index", "insert", "items", "keys", "pop", "remove",
           "reverse", "setdefault", "update", "values", "bit_length"}
NOWHERE = ("type", "typing", "typing_extensions", "enum", "Enum", "IntEnum", "StrEnum", "Flag", "IntFlag", "Generic",
           "Protocol", "ABC", "ABCMeta", "namedtuple", "NamedTuple", "TypedDict", "TYPE_CHECKING", "abstractmethod")


def trees():
    return [(path, ast.parse(path.read_text())) for path in FILES]


def names_given(tree):
    """Each name that is given a meaning: defs, parameters, and what is assigned or walked with."""
    for node in ast.walk(tree):
        if isinstance(node, ast.FunctionDef):
            yield node.name
        elif isinstance(node, ast.arg):
            yield node.arg
        elif isinstance(node, ast.Name) and isinstance(node.ctx, ast.Store):
            yield node.id


def names_imported(tree):
    return [name.name for node in ast.walk(tree) if isinstance(node, ast.ImportFrom) for name in node.names]


class Files(unittest.TestCase):
    def test_what_lies_in_the_package(self):
        self.assertEqual([path.name for path in FILES], ["__init__.py", "graphs.py", "points.py"])

    def test_signs_and_sizes(self):
        for path in FILES:
            text = path.read_bytes().decode("ascii")
            self.assertNotRegex(text, "[^ -~\n]", path)
            self.assertLessEqual(len(text.splitlines()), 400, path)
            for line in text.splitlines():
                self.assertLessEqual(len(line), 120, line)

    def test_words_that_stand_nowhere(self):
        for path in FILES:
            words = re.findall(r"\w+", path.read_text())
            for word in NOWHERE:
                self.assertNotIn(word, words, path)


class Code(unittest.TestCase):
    def test_nothing_is_imported_but_own_names(self):
        defined = [node.name for node in ast.parse((PACKAGE / "points.py").read_text()).body
                   if isinstance(node, ast.FunctionDef)]
        for path, tree in trees():
            for node in ast.walk(tree):
                self.assertNotIsInstance(node, ast.Import, path)
                if isinstance(node, ast.ImportFrom):
                    self.assertEqual((path.name, node.module, node.level), ("graphs.py", "plaingraphs.points", 0))
                    self.assertIn(node, tree.body)
                    for name in node.names:
                        self.assertIn(name.name, defined)
                        self.assertIsNone(name.asname)

    def test_what_is_imported_is_used_and_keeps_its_meaning(self):
        for path, tree in trees():
            used = [node.id for node in ast.walk(tree) if isinstance(node, ast.Name)]
            for name in names_imported(tree):
                self.assertIn(name, used)
                self.assertNotIn(name, list(names_given(tree)))

    def test_no_module_but_its_own_is_loaded(self):
        code = ("import sys; before = set(sys.modules); import plaingraphs.graphs; "
                "print(*sorted(set(sys.modules) - before))")
        ran = subprocess.run([sys.executable, "-B", "-c", code], cwd=PACKAGE.parent, capture_output=True, text=True)
        self.assertEqual(ran.stderr, "")
        self.assertEqual(ran.stdout.split(), ["plaingraphs", "plaingraphs.graphs", "plaingraphs.points"])

    def test_top_of_a_file(self):
        for path, tree in trees():
            self.assertIsNotNone(ast.get_docstring(tree), path)
            body = [node for node in tree.body[1:] if not isinstance(node, ast.ImportFrom)]
            for node in body:
                self.assertIsInstance(node, (ast.FunctionDef, ast.Assign), path)
                if isinstance(node, ast.Assign):
                    ast.literal_eval(node.value)
            given = [node.name if isinstance(node, ast.FunctionDef) else node.targets[0].id for node in body]
            self.assertEqual(len(given), len(set(given)), path)

    def test_statements_and_expressions(self):
        for path, tree in trees():
            for node in ast.walk(tree):
                where = (path.name, getattr(node, "lineno", 0), ast.dump(node))
                if isinstance(node, ast.stmt) and not isinstance(node, ast.ImportFrom):
                    self.assertIsInstance(node, STATEMENTS, where)
                if isinstance(node, ast.expr):
                    self.assertIsInstance(node, EXPRESSIONS, where)
                if isinstance(node, (ast.For, ast.While)):
                    self.assertEqual(node.orelse, [], where)
                if isinstance(node, ast.Assign):
                    self.assertEqual(len(node.targets), 1, where)
                if isinstance(node, ast.BinOp):
                    self.assertNotIsInstance(node.op, (ast.Div, ast.Pow, ast.MatMult), where)
                if isinstance(node, ast.Constant):
                    self.assertIn(type(node.value), (int, str, bool, type(None)), where)
                if isinstance(node, ast.ListComp):
                    self.assertEqual(len(node.generators), 1, where)
                    self.assertLessEqual(len(node.generators[0].ifs), 1, where)

    def test_functions(self):
        for path, tree in trees():
            for node in ast.walk(tree):
                if isinstance(node, ast.FunctionDef):
                    self.assertLessEqual(node.end_lineno - node.lineno + 1, 40, node.name)
                    self.assertEqual(node.decorator_list, [], node.name)
                    given = node.args
                    self.assertFalse(given.vararg or given.kwarg or given.kwonlyargs or given.posonlyargs, node.name)

    def test_names(self):
        for path, tree in trees():
            given = set(names_given(tree)) | set(names_imported(tree))
            for name in given:
                self.assertNotIn(name, dir(builtins), path)
                self.assertRegex(name, "^[A-Za-z][A-Za-z0-9_]*$", path)
            for node in ast.walk(tree):
                if isinstance(node, ast.Name) and node.id not in given:
                    self.assertIn(node.id, OWN_NAMES, path)
                if isinstance(node, ast.Attribute):
                    self.assertIn(node.attr, METHODS, path)


if __name__ == "__main__":
    unittest.main()
