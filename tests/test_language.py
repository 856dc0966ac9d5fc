"""The package keeps to its small part of Python; each check bears the rule that it looks after."""

import ast
import builtins
import pathlib
import re
import unittest

PACKAGE = pathlib.Path(__file__).resolve().parent.parent / "layerpaint"
FILES = sorted(path for path in PACKAGE.rglob("*") if path.is_file() and "__pycache__" not in path.parts)
TREES = {path: ast.parse(path.read_text()) for path in FILES if path.suffix == ".py"}

STATEMENTS = (ast.Assign, ast.AugAssign, ast.If, ast.While, ast.For, ast.Return, ast.Break, ast.Continue, ast.Pass,
              ast.Raise, ast.Try, ast.Expr, ast.FunctionDef, ast.ClassDef, ast.ImportFrom)
NOT_USED = (ast.Div, ast.MatMult, ast.Set, ast.SetComp, ast.DictComp, ast.GeneratorExp, ast.NamedExpr, ast.Starred,
            ast.Yield, ast.YieldFrom, ast.Await)
OWN_NAMES = set("""len range enumerate zip min max sum abs sorted reversed int str bool list tuple dict set frozenset
    isinstance ord repr any all divmod Exception ValueError TypeError KeyError IndexError LookupError ZeroDivisionError
    ArithmeticError OverflowError RuntimeError NotImplementedError AttributeError StopIteration""".split())
WORDS = re.compile(r"\b(type|typing|typing_extensions|enum|Enum|IntEnum|StrEnum|Flag|IntFlag|Generic|Protocol|ABC|ABCMeta"
                   r"|namedtuple|NamedTuple|TypedDict|TYPE_CHECKING|abstractmethod)\b|dataclass|overload|contextmanager")
METHODS = set("""append clear copy count endswith extend find get index insert isalnum isalpha isdigit islower isspace
    isupper items join keys ljust lower lstrip partition pop remove replace reverse rfind rjust rpartition rsplit
    rstrip setdefault split splitlines startswith strip update upper values zfill bit_length""".split())
PYTHONS_OWN = set(dir(str) + dir(int) + dir(list) + dir(dict) + dir(set) + dir(bytes) + dir(tuple))


def nodes(*kinds):
    for path, tree in TREES.items():
        for node in ast.walk(tree):
            if isinstance(node, kinds):
                yield path.name, node


def places(found):
    return [(name, node.lineno) for name, node in found]


def bound_names(node):
    """Parameters and locals of a def."""
    found = [arg.arg for arg in node.args.args]
    found.extend(part.id for part in ast.walk(node) if isinstance(part, ast.Name) and isinstance(part.ctx, ast.Store))
    return found


class LanguageTest(unittest.TestCase):
    def assert_none(self, found):
        self.assertEqual(list(found), [])

    def test_files(self):
        """L1, L14: plain lower-case files of Python, an __init__.py, plain signs."""
        self.assertIn(PACKAGE / "__init__.py", FILES)
        for path in FILES:
            self.assertRegex(path.name, r"^(__init__|[a-z][a-z0-9_]*)\.py$")
            self.assertNotIn(path.stem, dir(builtins))
            self.assertRegex(path.read_bytes().decode("ascii"), r"\A[ -~\n]*\Z")

    def test_size(self):
        """L10."""
        for path in FILES:
            lines = path.read_text().splitlines()
            self.assertLessEqual(len(lines), 399)
            self.assertLessEqual(max(map(len, lines), default=0), 120)
        for name, node in nodes(ast.FunctionDef):
            self.assertLessEqual(node.end_lineno - node.lineno + 1, 40, (name, node.name))

    def test_imports(self):
        """L2, L16: names drawn from the very file that defines them, and no two files draw from one another."""
        drawn = {}
        for path, tree in TREES.items():
            found = [node for node in ast.walk(tree) if isinstance(node, (ast.Import, ast.ImportFrom))]
            drawn[path.stem] = []
            for node in found:
                self.assertIsInstance(node, ast.ImportFrom)
                self.assertIn(node, tree.body)
                self.assertEqual((node.level, node.module.split(".")[0]), (0, "layerpaint"))
                stem = node.module.split(".")[1]
                top = TREES[PACKAGE / (stem + ".py")].body
                defined = [part.name for part in top if isinstance(part, (ast.FunctionDef, ast.ClassDef))]
                defined += [part.targets[0].id for part in top if isinstance(part, ast.Assign)]
                for alias in node.names:
                    self.assertIn(alias.name, defined)
                    self.assertIsNone(alias.asname)
                drawn[path.stem].append(stem)
        while drawn:
            free = [stem for stem, needs in drawn.items() if not set(needs) & set(drawn)]
            self.assertTrue(free, drawn)
            for stem in free:
                drawn.pop(stem)

    def test_imports_are_used(self):
        for path, tree in TREES.items():
            used = {node.id for node in ast.walk(tree) if isinstance(node, ast.Name)}
            for node in ast.walk(tree):
                if isinstance(node, ast.ImportFrom):
                    self.assertLessEqual({alias.name for alias in node.names}, used, path.name)

    def test_top_of_a_file(self):
        """L3, L15: a docstring, imports, defs, classes, and names bound once to plain values."""
        for path, tree in TREES.items():
            self.assertIsNotNone(ast.get_docstring(tree), path.name)
            names = []
            for node in tree.body[1:]:
                self.assertIsInstance(node, (ast.ImportFrom, ast.FunctionDef, ast.ClassDef, ast.Assign))
                if isinstance(node, ast.Assign):
                    names.append(node.targets[0].id)
                    ast.literal_eval(node.value)
                elif isinstance(node, ast.ImportFrom):
                    names.extend(alias.name for alias in node.names)
                else:
                    names.append(node.name)
            self.assertEqual(len(names), len(set(names)), path.name)

    def test_functions(self):
        """L4, L21: plain parameters, no decorator, no annotation."""
        for name, node in nodes(ast.FunctionDef):
            given = node.args
            self.assertFalse(given.posonlyargs or given.vararg or given.kwonlyargs or given.kwarg or given.defaults
                             or node.decorator_list or node.returns, (name, node.name))
            self.assertFalse([arg for arg in given.args if arg.annotation], (name, node.name))

    def test_classes(self):
        """L5, L18: methods alone, at most one base; no name a method here and a value there."""
        methods, values = set(), set()
        for name, node in nodes(ast.ClassDef):
            self.assertLessEqual(len(node.bases), 1)
            self.assertFalse(node.decorator_list or node.keywords)
            for part in node.body:
                self.assertIsInstance(part, ast.FunctionDef, (name, node.name))
                methods.add(part.name)
        for _, node in nodes(ast.Attribute):
            if isinstance(node.ctx, ast.Store):
                values.add(node.attr)
        self.assertEqual(methods & values, set())
        self.assertEqual((methods - {"__init__"}) & PYTHONS_OWN, set())
        self.assertEqual(values & PYTHONS_OWN, set())

    def test_statements(self):
        """L6: of expressions only a call stands by itself, but for a file's docstring."""
        self.assert_none(places((n, k) for n, k in nodes(ast.stmt) if not isinstance(k, STATEMENTS)))
        self.assert_none(places((n, k) for n, k in nodes(ast.Expr)
                                if not isinstance(k.value, ast.Call) and k.lineno != 1))
        self.assert_none(places((n, k) for n, k in nodes(ast.While, ast.For) if k.orelse))
        self.assert_none(places((n, k) for n, k in nodes(ast.Try) if k.finalbody))
        self.assert_none(places((n, k) for n, k in nodes(ast.Assign)
                                if len(k.targets) != 1 or isinstance(k.targets[0], ast.Tuple)))

    def test_expressions(self):
        """L7, L20: whole numbers and texts, no float, one for and one if in a comprehension, is beside None alone."""
        self.assertEqual([n for n, k in nodes(*NOT_USED)], [])
        self.assert_none(places((n, k) for n, k in nodes(ast.Constant)
                                if not isinstance(k.value, (int, str, bool, type(None)))))
        self.assert_none(places((n, k) for n, k in nodes(ast.ListComp)
                                if len(k.generators) != 1 or len(k.generators[0].ifs) > 1))
        self.assert_none(places((n, k) for n, k in nodes(ast.Compare)
                                if any(isinstance(op, (ast.Is, ast.IsNot)) for op in k.ops)
                                and not isinstance(k.comparators[-1], ast.Constant)))

    def test_names(self):
        """L8, L12, L15: listed names of Python's own alone, none given another meaning, none with a leading _."""
        for name, node in nodes(ast.Name):
            if node.id in dir(builtins):
                self.assertIn(node.id, OWN_NAMES, (name, node.lineno))
                self.assertIsInstance(node.ctx, ast.Load, (name, node.lineno))
            self.assertFalse(node.id.startswith("_"), (name, node.lineno))
        for path, tree in TREES.items():
            taken = {part.name for part in tree.body if isinstance(part, ast.ClassDef)}
            taken |= {a.name for part in tree.body if isinstance(part, ast.ImportFrom) for a in part.names}
            for node in ast.walk(tree):
                if isinstance(node, ast.FunctionDef):
                    self.assertEqual(set(bound_names(node)) & (taken | set(dir(builtins))), set(), path.name)

    def test_words_that_stand_nowhere(self):
        """L17, L27."""
        for path in FILES:
            self.assertIsNone(WORDS.search(path.read_text()), path.name)
        self.assert_none(places((n, k) for n, k in nodes(ast.Constant) if isinstance(k.value, str) and "%" in k.value))

    def test_methods(self):
        """L22, L25: of Python's own methods only those listed, and no keyword where none is granted."""
        own = {part.name for _, node in nodes(ast.ClassDef) for part in node.body}
        for name, node in nodes(ast.Call):
            if isinstance(node.func, ast.Attribute):
                self.assertIn(node.func.attr, METHODS | own, (name, node.lineno))
            self.assertEqual(node.keywords, [], (name, node.lineno))

    def test_walked_on_the_spot(self):
        """L23, L24: no set; zip, enumerate and range stand behind an in or in list."""
        walked = set()
        for _, node in nodes(ast.For, ast.comprehension):
            walked.add(node.iter)
        for _, node in nodes(ast.Call):
            if isinstance(node.func, ast.Name) and node.func.id in ("list", "tuple", "dict", "sorted", "sum"):
                walked.update(node.args[:1])
        for name, node in nodes(ast.Call):
            if isinstance(node.func, ast.Name):
                self.assertNotIn(node.func.id, ("set", "frozenset", "chr", "print"), (name, node.lineno))
                if node.func.id in ("zip", "enumerate", "reversed", "range"):
                    self.assertIn(node, walked, (name, node.lineno))

    def test_errors(self):
        """L19: own error classes alone are taken, by their names."""
        own = {node.name for _, node in nodes(ast.ClassDef)}
        for name, node in nodes(ast.ExceptHandler):
            self.assertIn(node.type.id, own, (name, node.lineno))
        for name, node in nodes(ast.Raise):
            self.assertIn(node.exc.func.id, own, (name, node.lineno))

    def test_interface(self):
        """L16: the function of the interface is written in its own file, and nowhere else."""
        found = [(name, [arg.arg for arg in node.args.args]) for name, node in nodes(ast.FunctionDef)
                 if node.name == "answers"]
        self.assertEqual(found, [("editor.py", ["calls"])])


if __name__ == "__main__":
    unittest.main()
