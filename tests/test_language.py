"""The package keeps to the plain subset of Python that it is written in (the rules a parser can see)."""

import ast
import builtins
import tokenize
import unittest
from pathlib import Path

ROOT = Path(__file__).resolve().parent.parent / "snuglay"
FILES = sorted(ROOT.rglob("*.py"))
ALLOWED_BUILTINS = set(
    "len range enumerate zip min max sum abs sorted reversed int str bool list tuple dict set isinstance ord repr"
    " any all divmod pow map iter next Exception ValueError TypeError KeyError IndexError LookupError"
    " ZeroDivisionError RuntimeError NotImplementedError StopIteration NotImplemented".split())
ALLOWED_METHODS = set(
    "append clear copy count endswith extend find get index insert isalnum isalpha isdigit islower isspace isupper"
    " items join keys ljust lower lstrip partition pop remove replace reverse rfind rjust rpartition rsplit rstrip"
    " setdefault split splitlines startswith strip update upper values zfill bit_length add discard isascii".split())
CHANGING = set("append clear extend insert pop remove reverse setdefault update add discard".split())
LIBRARY = {"math": {"gcd", "lcm", "isqrt", "comb"}, "heapq": {"heappush", "heappop", "heapify"},
           "itertools": {"product", "combinations", "permutations"}}
BARRED_NAMES = set(
    "mro elements open input law version_info with_traceback add_note register attrgetter breakpoint compile"
    " copyright credits delattr dir eval exec exit gc globals help importlib license locals methodcaller os quit"
    " setattr super type vars typing enum".split())
BARRED_WORDS = set(
    "mro elements open input law version_info with_traceback add_note register type typing typing_extensions enum Enum"
    " IntEnum StrEnum Flag IntFlag Generic Protocol ABC ABCMeta namedtuple NamedTuple TypedDict TYPE_CHECKING"
    " abstractmethod Counter OrderedDict ChainMap format eval exec lambda async await global".split())
BARRED_STARTS = ("__", "_wall", "_pe_", "_dcw_", "_enum_", "_cm_", "_twin_re_", "_lay_", "_law_", "_stub_", "_sre")
STATEMENTS = (ast.FunctionDef, ast.ClassDef, ast.Return, ast.Assign, ast.AugAssign, ast.For, ast.While, ast.If,
              ast.Raise, ast.Try, ast.Assert, ast.ImportFrom, ast.Expr, ast.Pass, ast.Break, ast.Continue, ast.Delete)


def trees():
    return [(path, ast.parse(path.read_text())) for path in FILES]


def bound_names(tree):
    """All names that parameters and assignments of a file bind within its functions."""
    found = set()
    for node in ast.walk(tree):
        if isinstance(node, ast.arg):
            found.add(node.arg)
        elif isinstance(node, ast.Name) and isinstance(node.ctx, ast.Store):
            found.add(node.id)
    return found


def own_methods():
    """The names of all methods of the package's classes."""
    return {row.name for path, tree in trees() for node in tree.body if isinstance(node, ast.ClassDef)
            for row in node.body if isinstance(row, ast.FunctionDef)}


def own_attributes():
    """The names of all attributes that the package assigns."""
    return {node.attr for path, tree in trees() for node in ast.walk(tree)
            if isinstance(node, ast.Attribute) and isinstance(node.ctx, ast.Store)}


def defined(tree):
    return [node.name for node in tree.body if isinstance(node, (ast.FunctionDef, ast.ClassDef))]


def imported(tree):
    return [alias.name for node in tree.body if isinstance(node, ast.ImportFrom) for alias in node.names]


class Language(unittest.TestCase):
    def test_files(self):
        self.assertTrue(FILES)
        for path in ROOT.rglob("*"):
            if "__pycache__" not in path.parts:
                self.assertTrue(path.is_dir() or path.suffix == ".py", path)
        for path in FILES:
            text = path.read_bytes()
            self.assertTrue(all(code == 10 or 32 <= code < 127 for code in text), path)
            lines = text.decode().splitlines()
            self.assertLessEqual(len(lines), 399, path)
            self.assertLessEqual(max([len(line) for line in lines]), 120, path)

    def test_functions_are_short(self):
        for path, tree in trees():
            for node in ast.walk(tree):
                if isinstance(node, ast.FunctionDef):
                    self.assertLessEqual(node.end_lineno - node.lineno + 1, 40, (path, node.name))
                    self.assertEqual(node.decorator_list, [], (path, node.name))

    def test_imports(self):
        graph = {}
        for path, tree in trees():
            name = "snuglay." + path.stem
            graph[name] = []
            for node in ast.walk(tree):
                self.assertNotIsInstance(node, ast.Import, path)
                if isinstance(node, ast.ImportFrom):
                    self.assertIn(node, tree.body)
                    self.assertEqual(node.level, 0)
                    self.assertTrue(all(alias.asname is None for alias in node.names), path)
                    if node.module in LIBRARY:
                        self.assertLessEqual({alias.name for alias in node.names}, LIBRARY[node.module])
                    else:
                        graph[name].append(node.module)
                        there = ast.parse((ROOT / (node.module.split(".")[1] + ".py")).read_text())
                        own = defined(there) + [target.id for row in there.body if isinstance(row, ast.Assign)
                                                for target in row.targets]
                        for alias in node.names:
                            self.assertIn(alias.name, own, path)
        self.assert_no_circle(graph)

    def assert_no_circle(self, graph):
        left = dict(graph)
        while left:
            ready = [name for name in left if not any(other in left for other in left[name])]
            self.assertTrue(ready, left)
            for name in ready:
                del left[name]

    def test_names(self):
        for path, tree in trees():
            outer = defined(tree) + imported(tree)
            outer += [target.id for row in tree.body if isinstance(row, ast.Assign) for target in row.targets]
            self.assertEqual(len(outer), len(set(outer)), path)
            inner = set()
            for row in tree.body:
                if isinstance(row, (ast.FunctionDef, ast.ClassDef)):
                    inner |= bound_names(row)
            self.assertEqual(inner & set(outer), set(), path)
            for name in inner | set(outer):
                self.assertFalse(hasattr(builtins, name), (path, name))
                self.assertNotIn(name, BARRED_NAMES, path)
                self.assertFalse(name.startswith(BARRED_STARTS), (path, name))

    def test_imports_are_used(self):
        for path, tree in trees():
            used = {node.id for node in ast.walk(tree) if isinstance(node, ast.Name)}
            for name in imported(tree):
                self.assertIn(name, used, path)

    def test_words(self):
        for path in FILES:
            text = path.read_text()
            for token in tokenize.generate_tokens(iter(text.splitlines(keepends=True)).__next__):
                if token.type == tokenize.NAME:
                    self.assertNotIn(token.string, BARRED_WORDS, (path, token.start))
            for word in ("dataclass", "overload", "contextmanager", "_wall", "_WallAttr"):
                self.assertNotIn(word, text, path)

    def test_statements_and_expressions(self):
        for path, tree in trees():
            for node in ast.walk(tree):
                where = (path.name, getattr(node, "lineno", 0))
                if isinstance(node, ast.stmt):
                    self.assertIsInstance(node, STATEMENTS, where)
                self.assertNotIsInstance(node, (ast.GeneratorExp, ast.Div, ast.Lambda, ast.NamedExpr, ast.Yield), where)
                if isinstance(node, ast.Constant):
                    self.assertNotIsInstance(node.value, (float, complex, bytes), where)
                    if isinstance(node.value, str):
                        self.assertNotIn(chr(37), node.value, where)
                if isinstance(node, ast.Compare) and isinstance(node.ops[0], (ast.Is, ast.IsNot)):
                    self.assertIn(ast.dump(node.comparators[0]), [ast.dump(ast.Constant(v)) for v in (None, True, False)])

    def test_calls(self):
        for path, tree in trees():
            own = set(defined(tree) + imported(tree))
            for node in ast.walk(tree):
                if isinstance(node, ast.Name) and hasattr(builtins, node.id) and node.id not in own:
                    self.assertIn(node.id, ALLOWED_BUILTINS, (path, node.lineno))
                if isinstance(node, ast.Call) and isinstance(node.func, ast.Attribute):
                    self.assertIn(node.func.attr, ALLOWED_METHODS | own_methods(), (path, node.lineno))
                if isinstance(node, ast.JoinedStr):
                    self.assertNotIn(chr(37), ast.unparse(node), (path, node.lineno))

    def test_methods_and_attributes(self):
        self.assertEqual(own_methods() & own_attributes(), set())
        for name in own_methods() | own_attributes():
            self.assertNotIn(name, BARRED_NAMES)
            self.assertFalse(name.startswith(BARRED_STARTS[1:]), name)
        for name in own_attributes():
            self.assertFalse(any(hasattr(kind, name) for kind in (str, int, list, dict, set, bytes)), name)

    def test_loops_do_not_change_what_they_go_over(self):
        for path, tree in trees():
            for loop in ast.walk(tree):
                if isinstance(loop, ast.For):
                    over = {node.id for node in ast.walk(loop.iter) if isinstance(node, ast.Name)}
                    for node in ast.walk(loop):
                        if isinstance(node, ast.Call) and isinstance(node.func, ast.Attribute):
                            if isinstance(node.func.value, ast.Name) and node.func.attr in CHANGING:
                                self.assertNotIn(node.func.value.id, over, (path, node.lineno))


if __name__ == "__main__":
    unittest.main()
