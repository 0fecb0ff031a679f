"""The rules of LANGUAGE.md that can be seen simply, held against the package's files."""

import ast
import builtins
import pathlib
import re
import unittest

PACKAGE = pathlib.Path(__file__).resolve().parent.parent / "texttrees"
FILES = sorted(PACKAGE.glob("*.py"))

STATEMENTS = (ast.Assign, ast.AugAssign, ast.If, ast.While, ast.For, ast.Return, ast.Break, ast.Continue, ast.Pass,
              ast.Raise, ast.Try, ast.Expr, ast.FunctionDef, ast.ClassDef, ast.ImportFrom)
EXPRESSIONS = (ast.Constant, ast.List, ast.Tuple, ast.Dict, ast.Set, ast.BinOp, ast.UnaryOp, ast.BoolOp, ast.Compare,
               ast.IfExp, ast.Call, ast.Attribute, ast.Subscript, ast.Slice, ast.ListComp, ast.JoinedStr,
               ast.FormattedValue, ast.Lambda, ast.Name)
PYTHONS_OWN = set("""len range enumerate zip min max sum abs sorted reversed int str bool list tuple dict set frozenset
    isinstance ord repr any all divmod Exception ValueError TypeError KeyError IndexError LookupError
    ZeroDivisionError ArithmeticError OverflowError RuntimeError NotImplementedError AttributeError
    StopIteration""".split())
METHODS = set("""append clear copy count endswith extend find get index insert isalnum isalpha isdigit islower isspace
    isupper items join keys ljust lower lstrip partition pop remove replace reverse rfind rjust rpartition rsplit rstrip
    setdefault split splitlines startswith strip update upper values zfill bit_length""".split())
WORDS = """type typing typing_extensions enum Enum IntEnum StrEnum Flag IntFlag Generic Protocol ABC ABCMeta namedtuple
    NamedTuple TypedDict TYPE_CHECKING abstractmethod""".split()


def tree_of(path):
    return ast.parse(path.read_text())


def nodes(kinds):
    for path in FILES:
        for node in ast.walk(tree_of(path)):
            if isinstance(node, kinds):
                yield path.name, node


class Language(unittest.TestCase):
    def test_files(self):
        there = [path for path in PACKAGE.iterdir() if path.name != "__pycache__"]
        self.assertEqual(sorted(there), FILES)
        for path in FILES:
            self.assertRegex(path.name, r"^(__init__|[a-z][a-z0-9_]*)\.py$")
            self.assertNotIn(path.stem, dir(builtins))

    def test_signs_words_and_sizes(self):
        for path in FILES:
            rows = path.read_text().split("\n")
            self.assertLess(len(rows), 400, path)
            for row in rows:
                self.assertRegex(row, r"^[ -~]{0,120}$", path)
                for word in re.findall(r"\w+", row):
                    self.assertNotIn(word, WORDS, path)
                self.assertNotRegex(row, r"dataclass|overload|contextmanager")

    def test_functions(self):
        for name, node in nodes(ast.FunctionDef):
            self.assertLessEqual(node.end_lineno - node.lineno + 1, 40, (name, node.name))
            given = node.args
            self.assertFalse(node.decorator_list or given.vararg or given.kwarg or given.kwonlyargs or given.posonlyargs)

    def test_statements_and_expressions(self):
        for name, node in nodes(ast.stmt):
            self.assertIsInstance(node, STATEMENTS, (name, node.lineno))
            self.assertFalse(isinstance(node, (ast.For, ast.While)) and node.orelse, (name, node.lineno))
        for name, node in nodes(ast.Assign):
            self.assertEqual(len(node.targets), 1, (name, node.lineno))
            self.assertNotIsInstance(node.targets[0], (ast.Tuple, ast.List), (name, node.lineno))
        for name, node in nodes(ast.expr):
            self.assertIsInstance(node, EXPRESSIONS, (name, node.lineno))
        for name, node in nodes(ast.BinOp):
            self.assertNotIsInstance(node.op, (ast.Div, ast.MatMult), (name, node.lineno))

    def test_a_statement_by_itself_is_a_call_or_the_text_atop_a_file(self):
        for path in FILES:
            tree = tree_of(path)
            self.assertIsNotNone(ast.get_docstring(tree), path)
            for node in ast.walk(tree):
                if isinstance(node, ast.Expr) and node is not tree.body[0]:
                    self.assertIsInstance(node.value, ast.Call, (path, node.lineno))

    def test_tops_hold_plain_values_once(self):
        for path in FILES:
            tree = tree_of(path)
            defs = [node.name for node in tree.body if isinstance(node, (ast.FunctionDef, ast.ClassDef))]
            values = [node for node in tree.body if isinstance(node, ast.Assign)]
            bound = defs + [node.targets[0].id for node in values]
            self.assertEqual(len(bound), len(set(bound)), path)
            for value in values:
                for node in ast.walk(value.value):
                    self.assertIsInstance(node, (ast.Constant, ast.Tuple, ast.Dict, ast.Name, ast.Load), path)
                    self.assertFalse(isinstance(node, ast.Name) and node.id not in defs, path)

    def test_imports(self):
        drawn = {}
        for name, node in nodes(ast.ImportFrom):
            self.assertEqual(node.level, 0)
            self.assertRegex(node.module, r"^texttrees\.[a-z]+$")
            source = node.module.split(".")[1]
            tops = tree_of(PACKAGE / (source + ".py")).body
            there = [top.name for top in tops if isinstance(top, (ast.FunctionDef, ast.ClassDef))]
            there += [top.targets[0].id for top in tops if isinstance(top, ast.Assign)]
            for alias in node.names:
                self.assertIn(alias.name, there, name)
                self.assertIsNone(alias.asname)
            drawn.setdefault(name[:-3], set()).add(source)
        while drawn:
            free = [name for name in drawn if not drawn[name] & set(drawn)]
            self.assertNotEqual(free, [], "files draw from one another")
            for name in free:
                drawn.pop(name)

    def test_names(self):
        for name, node in nodes((ast.Name, ast.arg, ast.FunctionDef, ast.ClassDef, ast.Attribute)):
            said = getattr(node, "id", None) or getattr(node, "arg", None) or getattr(node, "name", None) or node.attr
            if said != "__init__":
                self.assertRegex(said, r"^[A-Za-z][A-Za-z0-9_]*$", name)
            if said in dir(builtins):
                self.assertIn(said, PYTHONS_OWN, (name, node.lineno))
                self.assertIsInstance(node, ast.Name, (name, node.lineno))
                self.assertIsInstance(node.ctx, ast.Load, (name, node.lineno))

    def test_locals_hide_nothing(self):
        for path in FILES:
            tree = tree_of(path)
            tops = [node.name for node in tree.body if isinstance(node, ast.ClassDef)]
            for node in tree.body:
                if isinstance(node, ast.ImportFrom):
                    tops += [alias.name for alias in node.names]
            for node in ast.walk(tree):
                if isinstance(node, ast.arg):
                    self.assertNotIn(node.arg, tops, path)
                if isinstance(node, ast.Name) and isinstance(node.ctx, ast.Store):
                    self.assertNotIn(node.id, tops, path)

    def test_methods_and_values_have_names_of_their_own(self):
        methods = set()
        values = set()
        for name, node in nodes(ast.ClassDef):
            methods |= {part.name for part in node.body}
            values |= {part.attr for part in ast.walk(node)
                       if isinstance(part, ast.Attribute) and isinstance(part.ctx, ast.Store)}
        self.assertEqual(methods & values, set())
        of_python = set(dir("") + dir(0) + dir([]) + dir({}) + dir(set()) + dir(b""))
        self.assertEqual((methods | values) & of_python, {"__init__"})
        for name, node in nodes(ast.Attribute):
            self.assertIn(node.attr, methods | values | METHODS, (name, node.lineno))

    def test_the_interface_stands_in_its_file_alone(self):
        there = [name for name, node in nodes(ast.FunctionDef) if node.name == "answers"]
        self.assertEqual(there, ["editors.py"])


if __name__ == "__main__":
    unittest.main()
