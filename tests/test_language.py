"""The files of the package keep to the subset of Python that it is written in."""

import ast
import builtins
import pathlib
import re
import unittest

FOLDER = pathlib.Path(__file__).resolve().parent.parent / "ringbars"
FILES = sorted(path for path in FOLDER.iterdir() if path.name != "__pycache__")
TREES = {path.stem: ast.parse(path.read_text(encoding="utf-8")) for path in FILES}

LIBRARY = {"math": {"gcd", "lcm", "isqrt", "comb", "perm", "factorial"},
           "itertools": {"product", "combinations", "permutations"},
           "heapq": {"heappush", "heappop", "heapify", "heapreplace", "heappushpop"}}
BUILTINS = set("""len range enumerate zip min max sum abs sorted reversed int str bool list tuple dict
    set isinstance ord repr any all divmod super staticmethod property ValueError""".split())
METHODS = set("""append clear copy count endswith extend find get index insert isalnum isalpha isdigit
    islower isspace isupper items join keys ljust lower lstrip partition pop remove replace reverse rfind
    rjust rpartition rsplit rstrip setdefault split splitlines startswith strip update upper values zfill
    isascii bit_length""".split())
DUNDERS = {"__init__", "__eq__", "__repr__", "__str__", "__len__", "__bool__", "__call__", "__contains__"}
BARRED = set("""register mro elements open input law version_info with_traceback add_note type typing enum
    Enum Flag Generic Protocol ABC eval exec compile getattr setattr delattr hasattr globals locals vars dir
    id gc os sys exit quit help license copyright credits breakpoint importlib""".split())
NO_NODES = (ast.AsyncFunctionDef, ast.AsyncFor, ast.AsyncWith, ast.Await, ast.Global, ast.Nonlocal, ast.Yield,
            ast.YieldFrom, ast.Import, ast.GeneratorExp, ast.Set, ast.SetComp, ast.NamedExpr, ast.Div,
            ast.With, ast.Match, ast.AnnAssign, ast.Delete, ast.Assert)


def functions(tree):
    """All functions and methods of a file."""
    return [node for node in ast.walk(tree) if isinstance(node, ast.FunctionDef)]


def bound(function):
    """The names of the parameters and local variables of a function."""
    names = {one.arg for one in ast.walk(function) if isinstance(one, ast.arg)}
    names |= {one.name for one in ast.walk(function) if isinstance(one, ast.ExceptHandler) and one.name}
    return names | {one.id for one in ast.walk(function)
                    if isinstance(one, ast.Name) and isinstance(one.ctx, ast.Store)}


def defined(tree):
    """The names that a file itself binds at module level."""
    names = [node.name for node in tree.body if isinstance(node, (ast.FunctionDef, ast.ClassDef))]
    return names + [node.targets[0].id for node in tree.body if isinstance(node, ast.Assign)]


def imported(tree):
    """Pairs of the module and the name of each import of a file."""
    return [(node.module, one.name) for node in tree.body if isinstance(node, ast.ImportFrom)
            for one in node.names]


def is_plain(node, ahead=()):
    """Whether it is a literal that may stand at module level, or a table of functions defined ahead."""
    if isinstance(node, ast.Tuple):
        return all(is_plain(one) for one in node.elts)
    if isinstance(node, ast.Dict):
        values = [one for one in node.values if not (isinstance(one, ast.Name) and one.id in ahead)]
        return all(is_plain(one) and not isinstance(one, ast.Dict) for one in node.keys + values)
    return isinstance(node, ast.Constant) and not isinstance(node.value, float)


class LanguageTest(unittest.TestCase):

    def test_files(self):
        for path in FILES:
            self.assertRegex(path.name, r"^[a-z_][a-z0-9_]*\.py$")
            text = path.read_bytes().decode("ascii")
            self.assertFalse(re.search(r"[^\n -~]", text), path.name)
            self.assertNotIn("_wall", text, path.name)
            lines = text.split("\n")
            self.assertLessEqual(len(lines), 399, path.name)
            self.assertLessEqual(max(len(line) for line in lines), 120, path.name)

    def test_module_level(self):
        for stem, tree in TREES.items():
            self.assertIsNotNone(ast.get_docstring(tree), stem)
            for node in tree.body[1:]:
                kinds = (ast.ImportFrom, ast.FunctionDef, ast.ClassDef, ast.Assign)
                self.assertIsInstance(node, kinds, stem)
                if isinstance(node, ast.Assign):
                    ahead = {one.name for one in functions(tree) if one.lineno < node.lineno}
                    self.assertTrue(is_plain(node.value, ahead), stem)
            names = defined(tree) + [name for _, name in imported(tree)]
            self.assertEqual(len(names), len(set(names)), stem)

    def test_imports(self):
        for stem, tree in TREES.items():
            used = {node.id for node in ast.walk(tree) if isinstance(node, ast.Name)}
            for node in ast.walk(tree):
                if isinstance(node, ast.ImportFrom):
                    self.assertIn(node, tree.body)
                    self.assertEqual(node.level, 0)
                    self.assertTrue(all(one.asname is None for one in node.names))
            for module, name in imported(tree):
                self.assertIn(name, used, f"{stem} imports {name} in vain")
                if module in LIBRARY:
                    self.assertIn(name, LIBRARY[module])
                else:
                    folder, file = module.split(".")
                    self.assertEqual(folder, "ringbars")
                    self.assertIn(name, defined(TREES[file]), f"{stem}: {name}")

    def test_no_way_round_imports(self):
        behind = {stem: {module.split(".")[1] for module, _ in imported(tree) if "." in module}
                  for stem, tree in TREES.items()}
        while behind:
            free = [stem for stem, needs in behind.items() if not needs & set(behind)]
            self.assertTrue(free, behind)
            for stem in free:
                del behind[stem]

    def test_functions(self):
        for stem, tree in TREES.items():
            for node in functions(tree):
                self.assertLessEqual(node.end_lineno - node.lineno + 1, 40, f"{stem}.{node.name}")
                marks = [mark.id for mark in node.decorator_list]
                self.assertIn(marks, ([], ["staticmethod"]))
                if node.name.startswith("__"):
                    self.assertIn(node.name, DUNDERS)
                else:
                    self.assertIsNotNone(ast.get_docstring(node), f"{stem}.{node.name}")

    def test_names(self):
        for stem, tree in TREES.items():
            classes = {node.name for node in tree.body if isinstance(node, ast.ClassDef)}
            taken = classes | {name for _, name in imported(tree)}
            for name in defined(tree):
                self.assertFalse(hasattr(builtins, name), f"{stem}: {name}")
            for node in functions(tree):
                for name in bound(node):
                    where = f"{stem}.{node.name}: {name}"
                    self.assertNotIn(name, taken, where)
                    self.assertFalse(hasattr(builtins, name), where)
                    self.assertFalse(name.startswith("_") and name != "_", where)

    def test_nodes(self):
        for stem, tree in TREES.items():
            for node in ast.walk(tree):
                where = f"{stem}:{getattr(node, 'lineno', 0)}"
                self.assertNotIsInstance(node, NO_NODES, where)
                if isinstance(node, ast.Constant):
                    self.assertNotIsInstance(node.value, float, where)
                if isinstance(node, ast.Compare):
                    for sign, right in zip(node.ops, node.comparators):
                        if isinstance(sign, (ast.Is, ast.IsNot)):
                            self.assertIsInstance(right, ast.Constant, where)
                if isinstance(node, ast.Try):
                    self.assertEqual([one.type.id for one in node.handlers], ["RingError"], where)
                    self.assertFalse(node.orelse + node.finalbody, where)
                if isinstance(node, ast.BinOp) and isinstance(node.op, ast.Pow):
                    self.assertIsInstance(node.right, ast.Constant, where)
                if isinstance(node, ast.Name):
                    self.assertNotIn(node.id, BARRED, where)
                if isinstance(node, ast.Attribute) and node.attr.startswith("__"):
                    self.assertIn(node.attr, ("__init__", "__class__", "__name__"), where)

    def test_names_are_known(self):
        for stem, tree in TREES.items():
            known = set(defined(tree)) | {name for _, name in imported(tree)} | BUILTINS
            for top in tree.body:
                inside = {name for node in functions(top) for name in bound(node)}
                for node in ast.walk(top):
                    if isinstance(node, ast.Name):
                        self.assertIn(node.id, known | inside, f"{stem}:{node.lineno}")

    def test_strings(self):
        for stem, tree in TREES.items():
            notes = {id(node.body[0].value) for node in ast.walk(tree)
                     if isinstance(node, (ast.Module, ast.ClassDef, ast.FunctionDef))
                     and ast.get_docstring(node) is not None}
            for node in ast.walk(tree):
                if isinstance(node, ast.Constant) and isinstance(node.value, str):
                    where = f"{stem}:{node.lineno}"
                    self.assertNotIn("%", node.value, where)
                    self.assertNotIn("\\", node.value, where)
                    if id(node) not in notes:
                        self.assertFalse(set(re.findall(r"\w+", node.value)) & BARRED, where)

    def test_methods_and_attributes(self):
        methods, attributes = {}, {}
        for tree in TREES.values():
            for kind in ast.walk(tree):
                if isinstance(kind, ast.ClassDef):
                    methods[kind.name] = {node.name for node in functions(kind)}
                    attributes[kind.name] = {node.attr for node in ast.walk(kind)
                                             if isinstance(node, ast.Attribute)
                                             and isinstance(node.ctx, ast.Store)}
                    self.assertFalse(methods[kind.name] & attributes[kind.name], kind.name)
        stored = set().union(*attributes.values())
        called = METHODS | set().union(*methods.values())
        for stem, tree in TREES.items():
            calls = {id(node.func) for node in ast.walk(tree) if isinstance(node, ast.Call)}
            for node in ast.walk(tree):
                if isinstance(node, ast.Attribute) and not node.attr.startswith("__"):
                    right = called if id(node) in calls else stored
                    self.assertIn(node.attr, right, f"{stem}:{node.lineno}")

    def test_double_underscore_methods(self):
        for stem, tree in TREES.items():
            for node in functions(tree):
                if node.name in ("__eq__", "__repr__", "__str__", "__len__", "__bool__"):
                    self.assertIsInstance(node.body[-1], ast.Return, stem)
                    for one in ast.walk(node):
                        self.assertNotIsInstance(one, (ast.Assign, ast.AugAssign), stem)


if __name__ == "__main__":
    unittest.main()
