"""The rules of the language that can be seen file by file; the number of the rule stands in each message."""

import ast
import builtins
import unittest
from pathlib import Path

PACKAGE = Path(__file__).resolve().parent.parent / "forcedtables"
FILES = sorted(path for path in PACKAGE.rglob("*") if "__pycache__" not in path.parts)

BUILTINS = set("""len range enumerate zip min max sum abs sorted reversed int str bool bytes list tuple dict set
frozenset isinstance ord repr any all divmod iter next map Exception ValueError TypeError KeyError IndexError
LookupError ZeroDivisionError ArithmeticError OverflowError RuntimeError NotImplementedError AttributeError
StopIteration NotImplemented property staticmethod classmethod super""".split())
LIBRARY = {"heapq": {"heappush", "heappop", "heapify", "heapreplace", "heappushpop"},
           "math": {"gcd", "lcm", "isqrt", "comb", "perm", "factorial"},
           "itertools": {"product", "combinations", "permutations"}}
BARRED = set("""register mro elements open input law version_info with_traceback add_note attrgetter breakpoint builtins
compile copyright credits delattr dir eval exec exit gc getattr globals hasattr help id importlib license locals
methodcaller os quit setattr type vars sys typing enum""".split())
STATEMENTS = (ast.Assign, ast.FunctionDef, ast.ClassDef, ast.ImportFrom)
UNUSED = (ast.Global, ast.AsyncFunctionDef, ast.Await, ast.Import, ast.Div)
METHODS = set("""append clear copy count endswith extend find get index insert isalnum isalpha isdigit islower isspace
isupper items join keys ljust lower lstrip partition pop remove replace reverse rfind rjust rpartition rsplit rstrip
setdefault split splitlines startswith strip update upper values zfill bit_length add discard""".split())

SPECIAL = set("""__init__ __eq__ __str__ __len__ __iter__ __call__ __contains__ __getitem__ __mul__ __floordiv__ __and__
__or__ __iadd__""".split())
# Where attributes are assigned, and the signs that may change their object.
CHANGING = {"__init__", "step", "undo", "say", "_settle", "_begin_call"}
CHANGING_SIGNS = {"__init__", "__iadd__", "__call__"}
MODIFYING = {"append", "clear", "extend", "insert", "pop", "remove", "reverse", "setdefault", "update", "add", "discard",
             "sort"}


def trees():
    """Each file with its tree."""
    return [(path, ast.parse(path.read_text())) for path in FILES]


def own_names():
    """All functions, classes and methods of the package."""
    return {node.name for _, tree in trees() for node in ast.walk(tree)
            if isinstance(node, (ast.FunctionDef, ast.ClassDef))}


class Language(unittest.TestCase):
    def test_files(self):
        self.assertTrue((PACKAGE / "__init__.py").is_file(), "L14")
        self.assertLessEqual(len(FILES), 100, "L14")
        for path in FILES:
            self.assertEqual(path.parent, PACKAGE, "L1")
            self.assertTrue(path.suffix == ".py" and path.stem.replace("_", "").isalnum(), f"L1 {path}")
            self.assertEqual(path.name, path.name.lower(), "L14")

    def test_size_and_characters(self):
        for path in FILES:
            text = path.read_text()
            lines = text.split("\n")
            self.assertLessEqual(len(lines) - 1, 399, f"L10 {path}")
            for at, line in enumerate(lines, 1):
                self.assertLessEqual(len(line), 120, f"L10 {path}:{at}")
                self.assertTrue(all(" " <= sign <= "~" for sign in line), f"L14 {path}:{at}")

    def test_functions(self):
        for path, tree in trees():
            for node in ast.walk(tree):
                if isinstance(node, ast.FunctionDef):
                    self.assertLessEqual(node.end_lineno - node.lineno + 1, 40, f"L10 {path} {node.name}")

    def test_module_level(self):
        for path, tree in trees():
            for node in tree.body:
                docstring = isinstance(node, ast.Expr) and node is tree.body[0]
                self.assertTrue(docstring or isinstance(node, STATEMENTS), f"L3 {path}:{node.lineno}")

    def test_imports(self):
        for path, tree in trees():
            for node in ast.walk(tree):
                if not isinstance(node, ast.ImportFrom):
                    continue
                self.assertIn(node, tree.body, f"L2 {path}")
                names = {alias.name for alias in node.names}
                if node.module in LIBRARY:
                    self.assertLessEqual(names, LIBRARY[node.module], f"L2 {path}")
                    continue
                self.assertTrue(node.level == 0 and node.module.startswith("forcedtables."), f"L2 {path}")
                other = ast.parse((PACKAGE / f"{node.module.split('.')[1]}.py").read_text())
                defined = {part.name for part in other.body if isinstance(part, (ast.FunctionDef, ast.ClassDef))}
                defined |= {part.targets[0].id for part in other.body if isinstance(part, ast.Assign)}
                self.assertLessEqual(names, defined, f"L16 {path}")

    def test_no_two_files_import_from_each_other(self):
        imported = {path.stem: {node.module.split(".")[1] for node in tree.body if isinstance(node, ast.ImportFrom)
                                and node.module.startswith("forcedtables.")} for path, tree in trees()}
        while imported:
            free = [name for name, others in imported.items() if not others & set(imported)]
            self.assertTrue(free, f"L16 {sorted(imported)}")
            for name in free:
                del imported[name]

    def test_names(self):
        for path, tree in trees():
            for node in ast.walk(tree):
                if isinstance(node, ast.Name):
                    self.assertNotIn(node.id, BARRED, f"L17 {path}:{node.lineno}")
                    if node.id in dir(builtins):
                        self.assertIn(node.id, BUILTINS, f"L8 {path}:{node.lineno}")
                        self.assertIsInstance(node.ctx, ast.Load, f"L15 {path}:{node.lineno}")
                if isinstance(node, ast.arg):
                    self.assertNotIn(node.arg, set(dir(builtins)) | BARRED, f"L15 {path}:{node.lineno}")
                if isinstance(node, (ast.FunctionDef, ast.ClassDef)):
                    self.assertNotIn(node.name, BARRED, f"L17 {path}:{node.lineno}")

    def test_no_name_of_an_import_or_a_class_is_taken(self):
        for path, tree in trees():
            imported = {alias.name for node in tree.body if isinstance(node, ast.ImportFrom) for alias in node.names}
            taken = imported | {node.name for node in tree.body if isinstance(node, ast.ClassDef)}
            used = {node.id for node in ast.walk(tree) if isinstance(node, ast.Name)}
            self.assertLessEqual(imported, used, f"{path} imports what it does not use")
            for node in ast.walk(tree):
                if isinstance(node, ast.arg):
                    self.assertNotIn(node.arg, taken, f"L15 {path}:{node.lineno}")
                if isinstance(node, ast.Name) and isinstance(node.ctx, ast.Store):
                    self.assertNotIn(node.id, taken, f"L15 {path}:{node.lineno}")

    def test_expressions(self):
        for path, tree in trees():
            for node in ast.walk(tree):
                where = f"{path}:{getattr(node, 'lineno', 0)}"
                self.assertNotIsInstance(node, UNUSED, f"L6 {where}")
                if isinstance(node, ast.Constant):
                    self.assertNotIsInstance(node.value, (float, complex), f"L7 {where}")
                    self.assertFalse(isinstance(node.value, str) and "%" in node.value, f"L27 {where}")
                if isinstance(node, ast.BinOp) and isinstance(node.op, ast.Pow):
                    self.assertIsInstance(node.right, ast.Constant, f"L27 {where}")
                if isinstance(node, ast.Compare) and any(isinstance(op, (ast.Is, ast.IsNot)) for op in node.ops):
                    self.assertTrue(all(isinstance(part, ast.Constant) for part in node.comparators), f"L20 {where}")

    def test_methods(self):
        own = own_names()
        for path, tree in trees():
            for node in ast.walk(tree):
                if isinstance(node, ast.Call) and isinstance(node.func, ast.Attribute):
                    self.assertIn(node.func.attr, METHODS | own, f"L25 {path}:{node.lineno}")

    def test_classes(self):
        for path, tree in trees():
            for made in [node for node in tree.body if isinstance(node, ast.ClassDef)]:
                self.assertEqual(made.decorator_list, [], f"L5 {path}")
                methods = {node.name: node for node in made.body if isinstance(node, ast.FunctionDef)}
                for name, method in methods.items():
                    if name.startswith("__"):
                        self.assertIn(name, SPECIAL, f"L5 {path}")
                    self.assertLessEqual({getattr(one, "id", None) for one in method.decorator_list},
                                         {"property", "classmethod"}, f"L5 {path} {name}")
                if "__getitem__" in methods:
                    self.assertIn("__iter__", methods, f"L5 {path}")
                kept = {node.attr for node in ast.walk(made) if isinstance(node, ast.Attribute)
                        and isinstance(node.ctx, ast.Store)}
                self.assertFalse(kept & set(methods), f"L18 {path}")

    def test_methods_with_one_form(self):
        forms = {"__iter__": ("iter(",), "__len__": ("len(",), "__str__": ("str(", "' '.join(", "' / '.join(", "'-'")}
        for path, tree in trees():
            for node in ast.walk(tree):
                if isinstance(node, ast.FunctionDef) and node.name in forms:
                    where = f"L28 {path}:{node.lineno}"
                    self.assertIsInstance(node.body[-1], ast.Return, where)
                    for part in ast.walk(node):
                        if isinstance(part, ast.Return):
                            self.assertTrue(ast.unparse(part.value).startswith(forms[node.name]), where)
                    if node.name == "__iter__":
                        self.assertEqual(len(node.body), 1, f"L5 {path}:{node.lineno}")

    def test_what_a_sign_or_a_property_runs_changes_nothing(self):
        defined = {}
        waiting = []
        for _, tree in trees():
            for node in [part for part in ast.walk(tree) if isinstance(part, ast.FunctionDef)]:
                defined.setdefault(node.name, []).append(node)
                marks = {getattr(one, "id", None) for one in node.decorator_list}
                if (node.name.startswith("__") and node.name not in CHANGING_SIGNS) or "property" in marks:
                    waiting.append(node)
        seen = set()
        while waiting:
            node = waiting.pop()
            if id(node) in seen:
                continue
            seen.add(id(node))
            own = {target.id for part in ast.walk(node) if isinstance(part, ast.Assign) and isinstance(part.value, ast.List)
                   for target in part.targets if isinstance(target, ast.Name)}
            for part in ast.walk(node):
                self.assertFalse(isinstance(part, (ast.Attribute, ast.Subscript)) and isinstance(part.ctx, ast.Store),
                                 f"L5 {node.name}")
                if not isinstance(part, ast.Call):
                    continue
                name = getattr(part.func, "id", None) or part.func.attr
                if name in MODIFYING:
                    self.assertIn(part.func.value.id, own, f"L5 {node.name}")
                waiting += defined.get(name, [])
        self.assertGreater(len(seen), 60)

    def test_nothing_is_changed_in_place(self):
        for path, tree in trees():
            changing = [node for node in ast.walk(tree) if isinstance(node, ast.FunctionDef) and node.name in CHANGING]
            allowed = {id(part) for method in changing for part in ast.walk(method)}
            for node in ast.walk(tree):
                where = f"L5 {path}:{getattr(node, 'lineno', 0)}"
                self.assertNotIsInstance(node, (ast.AugAssign, ast.Delete), where)
                if isinstance(node, ast.Attribute) and isinstance(node.ctx, ast.Store):
                    self.assertIn(id(node), allowed, where)

    def test_generators_are_used_at_once(self):
        yielding = {node.name for _, tree in trees() for node in ast.walk(tree) if isinstance(node, ast.FunctionDef)
                    and any(isinstance(part, ast.Yield) for part in ast.walk(node))}
        # What stands in the head of a loop; the walk comes to a loop ahead of its head.
        spent = set()
        for path, tree in trees():
            for node in ast.walk(tree):
                if isinstance(node, (ast.For, ast.comprehension)):
                    spent |= {id(part) for part in ast.walk(node.iter)}
                if isinstance(node, ast.Name) and node.id in yielding:
                    self.assertIn(id(node), spent, f"L23 {path}:{node.lineno}")
                if isinstance(node, ast.GeneratorExp):
                    self.fail(f"L7 {path}:{node.lineno}")

    def test_docstrings(self):
        for path, tree in trees():
            self.assertIsNotNone(ast.get_docstring(tree), path)
            for node in ast.walk(tree):
                if isinstance(node, (ast.FunctionDef, ast.ClassDef)) and not node.name.startswith("__"):
                    self.assertIsNotNone(ast.get_docstring(node), f"{path}:{node.lineno}")
