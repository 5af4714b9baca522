"""The package stays within the subset of Python that it is written in, as far as its syntax shows this."""

import ast
import builtins
import re
import unittest
from pathlib import Path

FOLDER = Path(__file__).resolve().parent.parent / "evenlater"
FILES = sorted(FOLDER.glob("*.py"))
LIBRARY = {"math": {"gcd", "lcm", "isqrt", "comb", "perm", "factorial"}}
ALLOWED_BUILTINS = set("""len range enumerate zip min max sum abs sorted reversed int str bool bytes list tuple dict set
    isinstance ord repr any all divmod iter next Exception ValueError TypeError KeyError property classmethod
    staticmethod super""".split())
METHODS = set("""append clear copy count endswith extend find get index insert isalnum isalpha isdigit islower isspace
    isupper items join keys ljust lower lstrip partition pop remove replace reverse rfind rjust rpartition rsplit rstrip
    setdefault split splitlines startswith strip update upper values zfill bit_length title capitalize removeprefix
    removesuffix rindex isascii isdecimal isnumeric""".split())
DOUBLE = set("""__init__ __eq__ __repr__ __str__ __len__ __call__ __iter__ __add__ __sub__ __mul__ __floordiv__ __mod__
    __and__ __or__ __neg__ __invert__ __contains__ __getitem__""".split())
STATEMENTS = (ast.Assign, ast.If, ast.While, ast.For, ast.Return, ast.Break, ast.Continue, ast.Pass, ast.Raise,
              ast.Assert, ast.Delete, ast.Try, ast.Expr, ast.FunctionDef, ast.ClassDef, ast.ImportFrom)
BARRED_NODES = (ast.GeneratorExp, ast.Lambda, ast.Yield, ast.YieldFrom, ast.Await, ast.Global, ast.AugAssign,
                ast.AnnAssign, ast.NamedExpr, ast.Div, ast.MatMult, ast.AsyncFunctionDef, ast.Import, ast.With)
BARRED_WORDS = set("""type typing enum Enum Flag Generic Protocol ABC ABCMeta namedtuple NamedTuple register mro
    elements open input law version_info with_traceback add_note""".split())
CHANGING = {"live.py", "desk.py"}
AT_ONCE = {"zip", "enumerate", "reversed", "map"}
TAKERS = {"list", "tuple", "dict", "sorted", "sum", "any", "all", "enumerate", "zip", "min", "max"}


def parents_of(tree):
    return {child: node for node in ast.walk(tree) for child in ast.iter_child_nodes(node)}


def docstrings(tree):
    found = set()
    for node in ast.walk(tree):
        if isinstance(node, (ast.Module, ast.FunctionDef, ast.ClassDef)) and ast.get_docstring(node) is not None:
            found.add(node.body[0].value)
    return found


def bound_names(function):
    names = [arg.arg for arg in ast.walk(function) if isinstance(arg, ast.arg)]
    return names + [node.id for node in ast.walk(function) if isinstance(node, ast.Name) and is_store(node)]


def is_store(node):
    return isinstance(node.ctx, ast.Store)


class Language(unittest.TestCase):
    def setUp(self):
        self.trees = {path: ast.parse(path.read_text(encoding="utf-8")) for path in FILES}

    def walk(self, *kinds):
        for path, tree in self.trees.items():
            for node in ast.walk(tree):
                if isinstance(node, kinds):
                    yield f"{path.name}:{getattr(node, 'lineno', 0)}", node

    def test_files(self):
        others = [path.name for path in FOLDER.iterdir() if path not in FILES and path.name != "__pycache__"]
        self.assertEqual(others, [])
        self.assertLessEqual(len(FILES), 100)
        for path in FILES:
            text = path.read_text(encoding="utf-8")
            self.assertTrue(re.fullmatch(r"[ -~\n]*", text), path.name)
            self.assertTrue(re.fullmatch(r"[a-z_0-9]+\.py", path.name), path.name)
            self.assertLessEqual(len(text.splitlines()), 399, path.name)
            self.assertLessEqual(max(map(len, text.splitlines())), 120, path.name)

    def test_functions_are_short(self):
        for where, node in self.walk(ast.FunctionDef):
            self.assertLessEqual(node.end_lineno - node.lineno + 1, 40, where)

    def test_statements_and_expressions(self):
        for where, node in self.walk(ast.stmt):
            self.assertIsInstance(node, STATEMENTS, where)
        for where, node in self.walk(ast.AST):
            self.assertNotIsInstance(node, BARRED_NODES, where)

    def test_module_level(self):
        for path, tree in self.trees.items():
            for at, node in enumerate(tree.body):
                plain = (ast.ImportFrom, ast.FunctionDef, ast.ClassDef, ast.Assign)
                docstring = at == 0 and isinstance(node, ast.Expr)
                self.assertTrue(docstring or isinstance(node, plain), f"{path.name}:{node.lineno}")

    def test_each_file_class_and_public_function_has_a_docstring(self):
        for path, tree in self.trees.items():
            self.assertIsNotNone(ast.get_docstring(tree), path.name)
            for node in tree.body:
                if isinstance(node, (ast.FunctionDef, ast.ClassDef)) and not node.name.startswith("_"):
                    self.assertIsNotNone(ast.get_docstring(node), node.name)

    def test_imports(self):
        for where, node in self.walk(ast.ImportFrom):
            names = {alias.name for alias in node.names}
            self.assertTrue(all(alias.asname is None for alias in node.names) and node.level == 0, where)
            if node.module in LIBRARY:
                self.assertLessEqual(names, LIBRARY[node.module], where)
                continue
            package, _, module = node.module.partition(".")
            self.assertEqual(package, "evenlater", where)
            tree = self.trees[FOLDER / f"{module}.py"]
            own = {part.name for part in tree.body if isinstance(part, (ast.FunctionDef, ast.ClassDef))}
            own |= {part.targets[0].id for part in tree.body if isinstance(part, ast.Assign)}
            self.assertLessEqual(names, own, where)

    def test_no_two_files_import_from_each_other(self):
        needs = {}
        for path, tree in self.trees.items():
            modules = [node.module for node in tree.body if isinstance(node, ast.ImportFrom)]
            needs[path.stem] = {name.partition(".")[2] for name in modules if name.startswith("evenlater.")}
        while needs:
            free = [name for name, known in needs.items() if not known & set(needs)]
            self.assertNotEqual(free, [], needs)
            needs = {name: known for name, known in needs.items() if name not in free}

    def test_imports_are_used(self):
        for path, tree in self.trees.items():
            used = {node.id for node in ast.walk(tree) if isinstance(node, ast.Name)}
            for node in tree.body:
                if isinstance(node, ast.ImportFrom):
                    self.assertLessEqual({alias.name for alias in node.names}, used, path.name)

    def test_names(self):
        for path, tree in self.trees.items():
            taken = {alias.name for node in tree.body if isinstance(node, ast.ImportFrom) for alias in node.names}
            taken |= {node.name for node in tree.body if isinstance(node, ast.ClassDef)}
            functions = [node for node in ast.walk(tree) if isinstance(node, ast.FunctionDef)]
            for function in functions:
                for name in bound_names(function):
                    where = f"{path.name}:{function.lineno} {name}"
                    self.assertNotIn(name, taken, where)
                    self.assertFalse(hasattr(builtins, name), where)
                    self.assertFalse(name.startswith("__"), where)
            outer = [node.name for node in tree.body if isinstance(node, (ast.FunctionDef, ast.ClassDef))]
            outer += [node.targets[0].id for node in tree.body if isinstance(node, ast.Assign)]
            self.assertEqual(len(outer), len(set(outer)), path.name)
            self.assertEqual([name for name in outer if hasattr(builtins, name) or name in taken - set(outer)], [])

    def test_builtins(self):
        for where, node in self.walk(ast.Name):
            if hasattr(builtins, node.id):
                self.assertIn(node.id, ALLOWED_BUILTINS, where)

    def test_methods(self):
        own = {node.name for _, node in self.walk(ast.FunctionDef)}
        for where, node in self.walk(ast.Call):
            if isinstance(node.func, ast.Attribute):
                self.assertIn(node.func.attr, METHODS | own, where)

    def test_double_underscores(self):
        for where, node in self.walk(ast.ClassDef):
            for part in node.body:
                if isinstance(part, ast.FunctionDef) and part.name.startswith("__"):
                    self.assertIn(part.name, DOUBLE, where)
            self.assertEqual(node.decorator_list, [], where)

    def test_words(self):
        for path, tree in self.trees.items():
            free = docstrings(tree)
            for node in ast.walk(tree):
                where = f"{path.name}:{getattr(node, 'lineno', 0)}"
                if isinstance(node, ast.Constant) and isinstance(node.value, str):
                    self.assertNotIn("%", node.value, where)
                    if node not in free:
                        self.assertFalse(set(re.findall(r"\w+", node.value)) & BARRED_WORDS, where)
                for field in ("id", "attr", "arg", "name"):
                    self.assertNotIn(getattr(node, field, None), BARRED_WORDS, where)
                if isinstance(node, ast.Constant):
                    self.assertNotIsInstance(node.value, (float, complex, bytes), where)

    def test_powers(self):
        for where, node in self.walk(ast.BinOp):
            if isinstance(node.op, ast.Pow):
                self.assertIsInstance(node.right, ast.Constant, where)

    def test_what_is_iterated_at_once(self):
        for path, tree in self.trees.items():
            parents = parents_of(tree)
            for node in ast.walk(tree):
                if isinstance(node, ast.Call) and isinstance(node.func, ast.Name) and node.func.id in AT_ONCE:
                    above = parents[node]
                    taker = isinstance(above, ast.Call) and getattr(above.func, "id", "") in TAKERS
                    looped = isinstance(above, (ast.For, ast.comprehension)) and above.iter is node
                    self.assertTrue(taker or looped, f"{path.name}:{node.lineno}")

    def test_sets_are_made_only_to_be_sorted_or_counted(self):
        for path, tree in self.trees.items():
            parents = parents_of(tree)
            for node in ast.walk(tree):
                made = isinstance(node, ast.Call) and getattr(node.func, "id", "") == "set"
                if made or isinstance(node, (ast.Set, ast.SetComp)):
                    above = parents[node]
                    fine = isinstance(above, ast.Call) and getattr(above.func, "id", "") in ("sorted", "len")
                    self.assertTrue(fine, f"{path.name}:{node.lineno}")

    def test_changes_stay_with_what_a_function_made(self):
        """Items are assigned only in lists that the function itself made, and attributes only in __init__, of an object
        that the function made, or in a plain method of what is there to change."""
        for where, function in self.walk(ast.FunctionDef):
            made = {}
            for node in ast.walk(function):
                for target in getattr(node, "targets", []):
                    if isinstance(target, ast.Name):
                        made.setdefault(target.id, []).append(node.value)
                    elif isinstance(target, ast.Subscript):
                        kinds = (ast.List, ast.ListComp, ast.BinOp)
                        values = made.get(getattr(target.value, "id", ""), [])
                        self.assertTrue(values and all(isinstance(value, kinds) for value in values), where)
                    elif isinstance(target, ast.Attribute):
                        values = made.get(target.value.id, [])
                        created = values and all(getattr(getattr(value, "func", None), "id", "") in self.classes()
                                                 for value in values)
                        self.assertTrue(created or self.may_change(where, function, target), where)

    def classes(self):
        return {node.name for _, node in self.walk(ast.ClassDef)}

    def may_change(self, where, function, target):
        if target.value.id != "self" or function.decorator_list:
            return False
        plain = not function.name.startswith("__") and where.partition(":")[0] in CHANGING
        return function.name == "__init__" or plain


if __name__ == "__main__":
    unittest.main()
