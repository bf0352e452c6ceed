"""The package keeps to the part of Python that it is to be written in, as far as its rules can be seen from outside."""

import ast
import builtins
import pathlib
import re
import unittest

ROOT = pathlib.Path(__file__).resolve().parent.parent
FOLDER = ROOT / "judgedprograms"
FILES = sorted(FOLDER.glob("*.py"))
STATEMENTS = (ast.FunctionDef, ast.ClassDef, ast.Assign, ast.AugAssign, ast.If, ast.While, ast.For, ast.Return,
              ast.Break, ast.Continue, ast.Pass, ast.Raise, ast.Try, ast.Expr, ast.ImportFrom)
OUTSIDE = (ast.Dict, ast.Set, ast.DictComp, ast.SetComp, ast.GeneratorExp, ast.NamedExpr, ast.Starred, ast.Div,
           ast.Await, ast.Yield, ast.YieldFrom, ast.Global, ast.Nonlocal, ast.AnnAssign, ast.Lambda)
BUILTIN = """len range enumerate zip min max sum abs sorted reversed int str bool list tuple dict set frozenset
isinstance ord repr any all divmod Exception ValueError TypeError KeyError IndexError LookupError ZeroDivisionError
ArithmeticError OverflowError RuntimeError NotImplementedError AttributeError StopIteration""".split()
METHODS = """append clear copy count endswith extend find get index insert items join keys pop remove replace reverse
setdefault split startswith strip update values bit_length""".split()
WORDS = """type typing typing_extensions enum Enum IntEnum StrEnum Flag IntFlag Generic Protocol ABC ABCMeta namedtuple
NamedTuple TypedDict TYPE_CHECKING abstractmethod""".split()
NAMES = """register mro elements open input version_info with_traceback add_note attrgetter breakpoint builtins compile
copyright credits delattr dir eval exec exit gc getattr globals hasattr help id importlib license locals methodcaller
os quit setattr super type vars sys""".split()


def trees():
    return [(path.name, ast.parse(path.read_text())) for path in FILES]


def is_plain(node, known):
    if isinstance(node, ast.Dict):
        return all(is_plain(part, known) for part in node.keys + node.values)
    if isinstance(node, (ast.Tuple, ast.List)):
        return all(is_plain(part, known) for part in node.elts)
    return isinstance(node, ast.Constant) or (isinstance(node, ast.Name) and node.id in known)


class LanguageTest(unittest.TestCase):
    def test_files(self):
        names = [path.name for path in FOLDER.iterdir() if path.name != "__pycache__"]
        self.assertEqual(sorted(names), [path.name for path in FILES])
        for path in FILES:
            self.assertRegex(path.name, r"^(__init__|[a-z0-9_]+)\.py$")
            self.assertNotIn(path.stem, dir(builtins))

    def test_signs_and_sizes(self):
        for path in FILES:
            text = path.read_text()
            self.assertRegex(text, r"\A[ -~\n]*\Z")
            lines = text.split("\n")
            self.assertLessEqual(len(lines), 400, path.name)
            self.assertLessEqual(max(len(line) for line in lines), 120, path.name)
            for word in re.findall(r"\w+", text):
                self.assertNotIn(word, WORDS, path.name)

    def test_top_of_files(self):
        for name, tree in trees():
            known = []
            for place, node in enumerate(tree.body):
                if isinstance(node, ast.FunctionDef):
                    known.append(node.name)
                elif isinstance(node, ast.Assign):
                    self.assertTrue(is_plain(node.value, known), (name, node.lineno))
                    for part in ast.walk(node.value):
                        if isinstance(part, (ast.List, ast.Dict)):
                            self.assertIs(part, node.value, (name, node.lineno))
                elif isinstance(node, ast.Expr):
                    self.assertEqual(place, 0)
                else:
                    self.assertIsInstance(node, (ast.ImportFrom, ast.ClassDef), (name, node.lineno))

    def test_imports(self):
        defined = {}
        drawn = {}
        for name, tree in trees():
            module = "judgedprograms." + name[:-3]
            defined[module] = [node.name for node in tree.body if isinstance(node, (ast.FunctionDef, ast.ClassDef))]
            defined[module] += [node.targets[0].id for node in tree.body if isinstance(node, ast.Assign)]
            drawn[module] = [node for node in ast.walk(tree) if isinstance(node, (ast.Import, ast.ImportFrom))]
        self.assertEqual(drawn["judgedprograms.__init__"], [])
        for module, rows in drawn.items():
            self.assertEqual(len(defined[module]), len(set(defined[module])))
            for row in rows:
                self.assertIsInstance(row, ast.ImportFrom)
                self.assertEqual(row.level, 0)
                for alias in row.names:
                    self.assertIn(alias.name, defined[row.module], module)
                    self.assertIsNone(alias.asname)
        left = {module: {row.module for row in rows} for module, rows in drawn.items()}
        while left:
            free = [module for module, needs in left.items() if not needs & set(left)]
            self.assertTrue(free, "files draw from one another")
            for module in free:
                left.pop(module)

    def test_imports_are_used(self):
        for name, tree in trees():
            used = {node.id for node in ast.walk(tree) if isinstance(node, ast.Name)}
            for node in tree.body:
                if isinstance(node, ast.ImportFrom):
                    for alias in node.names:
                        self.assertIn(alias.name, used, name)

    def test_statements_and_expressions(self):
        for name, tree in trees():
            tops = [node.value for node in tree.body if isinstance(node, ast.Assign)]
            for node in ast.walk(tree):
                where = (name, getattr(node, "lineno", 0))
                if isinstance(node, ast.stmt):
                    self.assertIsInstance(node, STATEMENTS, where)
                if isinstance(node, OUTSIDE) and node not in tops:
                    self.fail(where)
                if isinstance(node, ast.Assign):
                    self.assertEqual(len(node.targets), 1, where)
                    self.assertIsInstance(node.targets[0], (ast.Name, ast.Attribute, ast.Subscript), where)
                if isinstance(node, (ast.For, ast.While)):
                    self.assertEqual(node.orelse, [], where)
                if isinstance(node, ast.BinOp) and isinstance(node.op, ast.Pow):
                    self.assertIsInstance(node.right, ast.Constant, where)
                if isinstance(node, ast.ListComp):
                    self.assertEqual(len(node.generators), 1, where)
                    self.assertLessEqual(len(node.generators[0].ifs), 1, where)
                if isinstance(node, ast.Compare):
                    for op, right in zip(node.ops, node.comparators):
                        if isinstance(op, (ast.Is, ast.IsNot)):
                            self.assertIsInstance(right, ast.Constant, where)
                if isinstance(node, ast.Constant):
                    self.assertIsInstance(node.value, (int, str, type(None)), where)
                if isinstance(node, ast.Call):
                    self.assertIn(len(node.keywords), (0,), where)

    def test_functions_and_classes(self):
        for name, tree in trees():
            for node in ast.walk(tree):
                if isinstance(node, (ast.FunctionDef, ast.ClassDef)):
                    self.assertEqual(node.decorator_list, [], node.name)
                if isinstance(node, ast.FunctionDef):
                    self.assertLessEqual(node.end_lineno - node.lineno + 1, 40, node.name)
                    self.assertIsNone(node.args.vararg)
                    self.assertIsNone(node.args.kwarg)
                    self.assertEqual(node.args.kwonlyargs, [])
                    self.assertIsNone(node.returns)
                if isinstance(node, ast.ClassDef):
                    self.assertLessEqual(len(node.bases), 1)
                    for part in node.body:
                        is_docstring = isinstance(part, ast.Expr) and isinstance(part.value, ast.Constant)
                        self.assertTrue(is_docstring or isinstance(part, ast.FunctionDef), node.name)

    def test_names(self):
        own_methods = set()
        own_values = set()
        for name, tree in trees():
            for node in ast.walk(tree):
                if isinstance(node, ast.ClassDef):
                    own_methods |= {part.name for part in node.body if isinstance(part, ast.FunctionDef)}
                if isinstance(node, ast.Attribute) and isinstance(node.ctx, ast.Store):
                    own_values.add(node.attr)
        own_methods.discard("__init__")
        self.assertEqual(own_methods & own_values, set())
        taken = {word for kind in (int, str, list, dict, set, bytes, float) for word in dir(kind)}
        self.assertEqual((own_methods | own_values) & taken, set())
        for name, tree in trees():
            names = [node for node in ast.walk(tree) if isinstance(node, ast.Name)]
            bound = {node.id for node in names if isinstance(node.ctx, ast.Store)}
            bound |= {node.arg for node in ast.walk(tree) if isinstance(node, ast.arg)}
            drawn = {alias.name for node in tree.body if isinstance(node, ast.ImportFrom) for alias in node.names}
            tops = {node.name for node in tree.body if isinstance(node, (ast.FunctionDef, ast.ClassDef))}
            self.assertEqual(bound & (set(dir(builtins)) | drawn | tops), set(), name)
            known = bound | drawn | tops | set(BUILTIN)
            for node in ast.walk(tree):
                if isinstance(node, ast.Name):
                    self.assertIn(node.id, known, name)
                    self.assertNotIn(node.id, NAMES, name)
                    self.assertFalse(node.id.startswith("_"), name)
                if isinstance(node, ast.Attribute):
                    self.assertIn(node.attr, own_methods | own_values | set(METHODS), name)


if __name__ == "__main__":
    unittest.main()
