"""Looks for breaches of the language's rules in the package: those that can be seen by reading alone."""

import ast
import builtins
import pathlib
import re
import unittest

FOLDER = pathlib.Path(__file__).resolve().parent.parent / "nearestkinds"
FILES = sorted(FOLDER.rglob("*.py"))
TREES = {path: ast.parse(path.read_text()) for path in FILES}

BUILTINS = set("""
    len range enumerate zip min max sum abs sorted reversed int str bool bytes list tuple dict set frozenset isinstance
    ord repr any all divmod pow getattr hasattr setattr iter next map super type Exception ValueError TypeError KeyError
    IndexError LookupError ZeroDivisionError ArithmeticError OverflowError RuntimeError NotImplementedError
    AttributeError StopIteration NotImplemented property staticmethod classmethod
""".split())
METHODS = set("""
    append clear copy count endswith extend find get index insert isalnum isalpha isdigit islower isspace isupper items
    join keys ljust lower lstrip partition pop remove replace reverse rfind rjust rpartition rsplit rstrip setdefault
    split splitlines startswith strip update upper values zfill bit_length title capitalize swapcase casefold center
    removeprefix removesuffix rindex isascii add discard sort appendleft popleft
""".split())
LIBRARY = {
    "heapq": {"heappush", "heappop", "heapify", "heapreplace", "heappushpop"},
    "math": {"gcd", "lcm", "isqrt", "comb", "perm", "factorial"},
    "itertools": {"product", "combinations", "permutations", "chain", "accumulate", "pairwise", "islice",
                  "zip_longest"},
    "collections": {"deque", "defaultdict"},
}
BARRED = set("""
    mro elements open input law version_info with_traceback add_note register attrgetter breakpoint builtins compile
    copyright credits delattr dir eval exec exit gc globals help id importlib license locals methodcaller os quit vars
    typing enum Enum Flag Generic Protocol ABC namedtuple NamedTuple dataclass
""".split())
DOUBLE = {"__init__", "__eq__", "__repr__", "__str__", "__len__", "__enter__", "__exit__", "__call__", "__iter__"}


def walk(kind):
    """All nodes of a kind, with what stands ahead of them in a message."""
    for path, tree in TREES.items():
        for node in ast.walk(tree):
            if isinstance(node, kind):
                yield f"{path.name}:{getattr(node, 'lineno', 0)}", path, node


def parents(kind):
    """All nodes of a kind, behind their place and the node around them."""
    for place, _, parent in walk(ast.AST):
        for node in ast.iter_child_nodes(parent):
            if isinstance(node, kind):
                yield place, parent, node


def bound_names():
    """All names that the package gives to something, where each stands."""
    for place, _, node in walk((ast.FunctionDef, ast.ClassDef, ast.arg, ast.Name)):
        if isinstance(node, ast.arg):
            yield place, node.arg
        elif isinstance(node, ast.Name):
            if isinstance(node.ctx, ast.Store):
                yield place, node.id
        else:
            yield place, node.name


def own_methods():
    """The names of all methods of the package."""
    bodies = [node.body for _, _, node in walk(ast.ClassDef)]
    return {node.name for body in bodies for node in body if isinstance(node, ast.FunctionDef)}


class LanguageTest(unittest.TestCase):
    def test_files(self):
        """L1, L14: plain files of Python alone, in plain signs."""
        for path in FOLDER.rglob("*"):
            if path.name != "__pycache__" and path.parent.name != "__pycache__":
                self.assertTrue(path.is_dir() or re.fullmatch(r"[a-z0-9_]+\.py", path.name), path)
        for path in FILES:
            self.assertTrue(all(sign == "\n" or " " <= sign <= "~" for sign in path.read_text()), path)
            self.assertFalse(path.stem in dir(builtins) or path.stem.startswith("test"), path)

    def test_sizes(self):
        """L10: short functions, files and lines."""
        for path in FILES:
            lines = path.read_text().splitlines()
            self.assertLess(len(lines), 400, path)
            self.assertTrue(all(len(line) <= 120 for line in lines), path)
        for place, _, node in walk((ast.FunctionDef, ast.Lambda)):
            self.assertLessEqual(node.end_lineno - node.lineno + 1, 40, place)

    def test_imports(self):
        """L2, L16: each name from the file that defines it, and no files that import from each other."""
        needs = {path.stem: [] for path in FILES}
        self.assertEqual([place for place, _, _ in walk(ast.Import)], [])
        for place, path, node in walk(ast.ImportFrom):
            self.assertIn(node, TREES[path].body, place)
            names = {name.name for name in node.names}
            if node.module in LIBRARY:
                self.assertLessEqual(names, LIBRARY[node.module], place)
                continue
            package, _, module = node.module.partition(".")
            self.assertEqual((package, node.level, [name.asname for name in node.names if name.asname]),
                             ("nearestkinds", 0, []), place)
            needs[path.stem].append(module)
            self.assertLessEqual(names, self.defined(TREES[FOLDER / f"{module}.py"]), place)
        while needs:
            free = [name for name, others in needs.items() if not any(other in needs for other in others)]
            self.assertTrue(free, needs)
            needs = {name: others for name, others in needs.items() if name not in free}

    def defined(self, tree):
        """The names that a file defines at its own level, each once."""
        names = [node.name for node in tree.body if isinstance(node, (ast.FunctionDef, ast.ClassDef))]
        names += [target.id for node in tree.body if isinstance(node, ast.Assign) for target in node.targets]
        self.assertEqual(len(names), len(set(names)))
        return set(names)

    def test_module_level(self):
        """L3: nothing but a docstring, imports, functions, classes and plain values."""
        for path, tree in TREES.items():
            for node in tree.body:
                self.assertIsInstance(node, (ast.Expr, ast.ImportFrom, ast.FunctionDef, ast.ClassDef, ast.Assign), path)
                if isinstance(node, ast.Expr):
                    self.assertIsInstance(node.value, ast.Constant)

    def test_docstrings(self):
        """Each file, class and function says what it is, but for methods whose names do."""
        for place, _, node in walk((ast.Module, ast.ClassDef, ast.FunctionDef)):
            if getattr(node, "name", "") not in DOUBLE:
                self.assertTrue(ast.get_docstring(node), place)

    def test_statements_and_values(self):
        """L6, L7, L20: no statements and values of other kinds."""
        barred = (ast.AsyncFunctionDef, ast.AsyncFor, ast.AsyncWith, ast.Await, ast.GeneratorExp, ast.Div, ast.MatMult)
        self.assertEqual([place for place, _, _ in walk(barred)], [])
        for place, _, node in walk(ast.Constant):
            self.assertIn(type(node.value), (int, str, bytes, bool, type(None), type(Ellipsis)), place)
            self.assertFalse(isinstance(node.value, str) and "%" in node.value, place)
        for place, _, node in walk(ast.Compare):
            for sign, right in zip(node.ops, node.comparators):
                if isinstance(sign, (ast.Is, ast.IsNot)):
                    kinds = isinstance(node.left, ast.Call) and getattr(node.left.func, "id", "") == "type"
                    self.assertTrue(kinds or getattr(right, "value", 0) in (None, True, False), place)

    def test_names(self):
        """L8, L12, L15, L17: plain names, none of a builtin's, and just the builtins that are let."""
        for place, name in bound_names():
            self.assertTrue(name == "_" or name in DOUBLE or re.fullmatch(r"_?[A-Za-z][A-Za-z0-9_]*", name), place)
            self.assertFalse(name in BARRED or name in dir(builtins) and name not in own_methods(), place)
        for place, _, node in walk(ast.Name):
            if node.id in dir(builtins):
                self.assertIn(node.id, BUILTINS, place)
            self.assertFalse(node.id == "_" and isinstance(node.ctx, ast.Load), place)
        for place, path, node in walk(ast.FunctionDef):
            used = {name.id for name in ast.walk(node) if isinstance(name, ast.Name) and type(name.ctx) is ast.Store}
            used |= {name.arg for name in ast.walk(node) if isinstance(name, ast.arg)}
            told = {name.name for each in TREES[path].body if isinstance(each, ast.ImportFrom) for name in each.names}
            told |= {each.name for each in TREES[path].body if isinstance(each, ast.ClassDef)}
            self.assertEqual(used & told, set(), place)

    def test_stars(self):
        """L7: in calls a star stands ahead of a name alone, and behind it names and plain values."""
        for place, _, node in walk(ast.Call):
            starred = [k for k, each in enumerate(node.args) if isinstance(each, ast.Starred)]
            for each in node.args[starred[0]:] if starred else []:
                inner = each.value if isinstance(each, ast.Starred) else each
                self.assertIsInstance(inner, (ast.Name, ast.Attribute, ast.Constant), place)

    def test_methods(self):
        """L25: just the methods that are let, and own ones."""
        for place, _, node in walk(ast.Call):
            if isinstance(node.func, ast.Attribute):
                self.assertIn(node.func.attr, METHODS | own_methods() | {"__init__"}, place)
        for place, _, node in walk(ast.Attribute):
            self.assertNotIn(node.attr, BARRED, place)

    def test_iterated_at_once(self):
        """L23: what only can be gone over is gone over where it stands."""
        for place, parent, node in parents(ast.Call):
            name = getattr(node.func, "id", getattr(node.func, "attr", ""))
            if name in ("zip", "enumerate", "reversed", "range", "items", "keys", "values", "combinations", "product"):
                over = isinstance(parent, (ast.For, ast.comprehension)) and parent.iter is node
                first = isinstance(parent, ast.Call) and parent.args[:1] == [node]
                goes = ("list", "tuple", "dict", "sorted", "sum", "enumerate")
                self.assertTrue(over or first and getattr(parent.func, "id", "") in goes, place)

    def test_sets(self):
        """L24: sets are sorted, counted or compared where they stand."""
        for place, parent, node in parents((ast.Call, ast.Set, ast.SetComp)):
            if not isinstance(node, ast.Call) or getattr(node.func, "id", "") in ("set", "frozenset"):
                named = isinstance(parent, ast.Call) and getattr(parent.func, "id", "") in ("sorted", "len")
                self.assertTrue(named or isinstance(parent, ast.Compare), place)

    def test_kinds_of_values(self):
        """L8: type(x) stands beside a class alone."""
        for place, parent, node in parents(ast.Call):
            if getattr(node.func, "id", "") == "type":
                self.assertTrue(isinstance(parent, ast.Compare) and parent.left is node, place)

    def test_no_calls_within_calls(self):
        """[0.3]: no function calls itself, as things may be deeper than calls can go."""
        calls = {}
        for _, _, node in walk(ast.FunctionDef):
            inner = [call.func for call in ast.walk(node) if isinstance(call, ast.Call)]
            told = {getattr(call, "id", getattr(call, "attr", "")) for call in inner}
            calls.setdefault(node.name, set()).update(told)
        for name in calls:
            reached, todo = set(), list(calls[name])
            while todo:
                other = todo.pop()
                if other not in reached:
                    reached.add(other)
                    todo.extend(calls.get(other, ()))
            self.assertNotIn(name, reached - {"__init__"})


if __name__ == "__main__":
    unittest.main()
