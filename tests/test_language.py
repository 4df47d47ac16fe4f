"""The rules for the package's own code, as far as they can be seen from outside."""

import ast
import builtins
import pathlib
import unittest

from twoletters import errors

ROOT = pathlib.Path(__file__).resolve().parent.parent
PACKAGE = ROOT / "twoletters"
FILES = sorted(PACKAGE.rglob("*.py"))
LIBRARY = {
    "math": {"gcd", "lcm", "isqrt", "comb", "perm", "factorial"},
    "itertools": {"product", "combinations", "permutations", "chain", "accumulate", "pairwise", "islice", "zip_longest"},
    "heapq": {"heappush", "heappop", "heapify", "heapreplace", "heappushpop"},
    "collections": {"defaultdict"},
}
BUILTINS = set(
    "len range enumerate zip min max sum abs sorted reversed int str bool bytes list tuple dict set frozenset "
    "isinstance ord chr repr any all divmod pow getattr hasattr setattr Exception ValueError TypeError KeyError "
    "IndexError LookupError ZeroDivisionError ArithmeticError OverflowError RuntimeError NotImplementedError "
    "AttributeError StopIteration NotImplemented iter next map super".split()
)
METHODS = set(
    "append clear copy count endswith extend find get index insert isalnum isalpha isdigit islower isspace isupper "
    "items join keys ljust lower lstrip partition pop remove replace reverse rfind rjust rpartition rsplit rstrip "
    "setdefault split splitlines startswith strip update upper values zfill bit_length add discard".split()
)
BARRED = {
    "register", "mro", "elements", "open", "input", "law", "version_info", "with_traceback", "add_note",
    "type", "typing", "enum", "dataclass", "vars", "id", "dir", "eval", "exec", "compile", "os", "gc", "help",
}
AT_ONCE = {"zip", "enumerate", "reversed"}
TAKERS = {"list", "tuple", "dict", "sorted", "sum", "any", "all", "enumerate", "zip", "min", "max"}
TREES = {path: ast.parse(path.read_text(encoding="ascii")) for path in FILES}


def bound_names(tree):
    for node in ast.walk(tree):
        if isinstance(node, ast.Name) and isinstance(node.ctx, ast.Store):
            yield node.id
        elif isinstance(node, ast.arg):
            yield node.arg
        elif isinstance(node, (ast.FunctionDef, ast.ClassDef)):
            yield node.name
        elif isinstance(node, ast.alias):
            yield node.asname or node.name


class LanguageTest(unittest.TestCase):
    def each(self, kinds):
        for path, tree in TREES.items():
            for node in ast.walk(tree):
                if isinstance(node, kinds):
                    yield f"{path.name}:{getattr(node, 'lineno', 0)}", node

    def test_only_python_files(self):
        names = {path.name for path in PACKAGE.iterdir() if path.name != "__pycache__"}
        self.assertEqual(names, {path.name for path in FILES})
        self.assertLessEqual(len(FILES), 100)

    def test_sizes(self):
        for path in FILES:
            lines = path.read_text().split("\n")
            self.assertLessEqual(len(lines), 400, path.name)
            for at, line in enumerate(lines, 1):
                self.assertLessEqual(len(line), 120, f"{path.name}:{at}")
                self.assertTrue(all(" " <= sign <= "~" for sign in line), f"{path.name}:{at}")
                self.assertEqual(line, line.rstrip(), f"{path.name}:{at}")
        for where, node in self.each(ast.FunctionDef):
            self.assertLessEqual(node.end_lineno - node.lineno + 1, 40, where)

    def test_imports(self):
        sources = {}
        for path, tree in TREES.items():
            reached = set()
            is_top = True
            for node in tree.body:
                where = f"{path.name}:{node.lineno}"
                if isinstance(node, ast.ImportFrom):
                    self.assertTrue(is_top, where)
                    self.assertEqual(node.level, 0, where)
                    names = {alias.name for alias in node.names}
                    self.assertTrue(all(alias.asname is None for alias in node.names), where)
                    if node.module in LIBRARY:
                        self.assertLessEqual(names, LIBRARY[node.module], where)
                        continue
                    top, _, name = node.module.partition(".")
                    self.assertEqual(top, "twoletters", where)
                    reached.add(name)
                    defined = set()
                    for one in TREES[PACKAGE / f"{name}.py"].body:
                        if isinstance(one, (ast.FunctionDef, ast.ClassDef)):
                            defined.add(one.name)
                        if isinstance(one, ast.Assign):
                            defined.add(one.targets[0].id)
                    self.assertLessEqual(names, defined, where)
                elif not (isinstance(node, ast.Expr) and isinstance(node.value, ast.Constant)):
                    is_top = False
            sources[path.stem] = reached
        while sources:
            free = [name for name, reached in sources.items() if not reached & set(sources)]
            self.assertTrue(free, f"a ring of imports among {sorted(sources)}")
            for name in free:
                del sources[name]

    def test_imports_only_there(self):
        for where, node in self.each((ast.Import, ast.ImportFrom)):
            self.assertIsInstance(node, ast.ImportFrom, where)
            self.assertEqual(node.col_offset, 0, where)

    def test_no_import_for_nothing(self):
        for path, tree in TREES.items():
            read = {node.id for node in ast.walk(tree) if isinstance(node, ast.Name)}
            for node in ast.walk(tree):
                if isinstance(node, ast.ImportFrom):
                    for alias in node.names:
                        self.assertIn(alias.name, read, f"{path.name}:{node.lineno}")

    def test_no_function_for_nothing(self):
        told = set()
        for tree in TREES.values():
            for node in ast.walk(tree):
                if isinstance(node, ast.Name):
                    told.add(node.id)
                elif isinstance(node, ast.alias):
                    told.add(node.name)
                elif isinstance(node, ast.Attribute):
                    told.add(node.attr)
        text = "".join(path.read_text() for path in (ROOT / "tests").glob("*.py"))
        text += "".join(path.read_text() for path in (ROOT / "tests").glob("*.txt"))
        for where, node in self.each((ast.FunctionDef, ast.ClassDef)):
            if not node.name.startswith("__") and not where.startswith("errors.py"):
                self.assertTrue(node.name in told or node.name in text, f"{where}: {node.name}")

    def test_module_level(self):
        for path, tree in TREES.items():
            names = []
            for node in tree.body:
                where = f"{path.name}:{node.lineno}"
                self.assertIsInstance(
                    node, (ast.Expr, ast.ImportFrom, ast.FunctionDef, ast.ClassDef, ast.Assign), where
                )
                if isinstance(node, ast.Expr):
                    self.assertIsInstance(node.value, ast.Constant, where)
                if isinstance(node, ast.Assign):
                    self.assertIsInstance(node.targets[0], ast.Name, where)
                    names.append(node.targets[0].id)
                if isinstance(node, ast.ImportFrom):
                    names.extend(alias.name for alias in node.names)
                if isinstance(node, (ast.FunctionDef, ast.ClassDef)):
                    names.append(node.name)
            self.assertEqual(len(names), len(set(names)), path.name)

    def test_no_local_name_of_an_import_or_a_class(self):
        for path, tree in TREES.items():
            barred = set()
            for node in tree.body:
                if isinstance(node, ast.ImportFrom):
                    barred.update(alias.name for alias in node.names)
                if isinstance(node, ast.ClassDef):
                    barred.add(node.name)
            for node in ast.walk(tree):
                if isinstance(node, ast.Name) and isinstance(node.ctx, ast.Store):
                    self.assertNotIn(node.id, barred, f"{path.name}:{node.lineno}")
                if isinstance(node, ast.arg):
                    self.assertNotIn(node.arg, barred, f"{path.name}:{node.lineno}")

    def test_names(self):
        for path, tree in TREES.items():
            for name in bound_names(tree):
                self.assertNotIn(name, BARRED, path.name)
                self.assertTrue(name.startswith("_") or not hasattr(builtins, name), f"{path.name}: {name}")
                if name.startswith("__"):
                    self.assertIn(name, {"__init__"}, path.name)
        for where, node in self.each(ast.Name):
            if hasattr(builtins, node.id) and node.id != "_":
                self.assertIn(node.id, BUILTINS, where)

    def test_statements_and_expressions(self):
        barred = (
            ast.Global, ast.AsyncFunctionDef, ast.Await, ast.Div, ast.MatMult, ast.AnnAssign, ast.Yield,
            ast.YieldFrom, ast.With, ast.NamedExpr, ast.SetComp, ast.Set, ast.JoinedStr, ast.Starred,
        )
        for where, node in self.each(barred):
            self.fail(f"{where}: {type(node).__name__}")
        # Own errors alone are caught, each by its name.
        for where, node in self.each(ast.Try):
            self.assertEqual((node.orelse, node.finalbody), ([], []), where)
            for handler in node.handlers:
                self.assertTrue(hasattr(errors, handler.type.id), where)
        for where, node in self.each((ast.FunctionDef, ast.ClassDef)):
            self.assertEqual(node.decorator_list, [], where)
        for where, node in self.each(ast.Constant):
            self.assertNotIsInstance(node.value, (float, complex, bytes), where)
            if isinstance(node.value, str):
                self.assertNotIn("%", node.value, where)
        for where, node in self.each(ast.BinOp):
            if isinstance(node.op, ast.Pow):
                self.assertIsInstance(node.right, ast.Constant, where)
        for where, node in self.each(ast.Compare):
            for op, side in zip(node.ops, node.comparators):
                if isinstance(op, (ast.Is, ast.IsNot)):
                    self.assertIn(getattr(side, "value", 0), (None, True, False), where)

    def test_methods(self):
        own = {node.name for _, node in self.each(ast.FunctionDef)}
        attributes = set()
        for where, node in self.each(ast.Attribute):
            if isinstance(node.ctx, ast.Store):
                attributes.add(node.attr)
        for where, node in self.each(ast.Call):
            if isinstance(node.func, ast.Attribute):
                self.assertIn(node.func.attr, METHODS | own, where)
        for where, node in self.each(ast.Attribute):
            self.assertIn(node.attr, METHODS | own | attributes, where)
        for where, node in self.each(ast.ClassDef):
            for each in node.body:
                if isinstance(each, ast.FunctionDef) and not each.name.startswith("__"):
                    for plain in (0, "", (), [], {}, b""):
                        self.assertFalse(hasattr(plain, each.name), where)
                    self.assertNotIn(each.name, attributes, where)

    def test_iterated_at_once(self):
        fit = set()
        for _, node in self.each((ast.For, ast.comprehension)):
            fit.add(node.iter)
        for _, node in self.each(ast.Call):
            if isinstance(node.func, ast.Name) and node.func.id in TAKERS and node.args:
                fit.add(node.args[0])
                if node.func.id == "zip":
                    fit.update(node.args)
        for where, node in self.each(ast.Call):
            if isinstance(node.func, ast.Name) and node.func.id in AT_ONCE | {"combinations", "accumulate"}:
                self.assertIn(node, fit, where)
        for where, node in self.each(ast.GeneratorExp):
            self.assertIn(node, fit, where)

    def test_keywords_of_builtins(self):
        allowed = {"sorted": {"key", "reverse"}, "min": {"key", "default"}, "max": {"key", "default"}}
        for where, node in self.each(ast.Call):
            if isinstance(node.func, ast.Name) and node.func.id in BUILTINS:
                for keyword in node.keywords:
                    self.assertIn(keyword.arg, allowed.get(node.func.id, ()), where)


if __name__ == "__main__":
    unittest.main()
