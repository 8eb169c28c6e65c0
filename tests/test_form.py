"""The files of the package keep to the subset of the language, as far as a short look at their trees can tell."""

import ast
import builtins
import pathlib
import unittest

FOLDER = pathlib.Path(__file__).resolve().parent.parent / "pairlaws"
LIBRARY = {"heapq", "math", "itertools"}
STATEMENTS = (ast.Assign, ast.AugAssign, ast.If, ast.While, ast.For, ast.Return, ast.Break, ast.Continue, ast.Pass,
              ast.Raise, ast.Assert, ast.Delete, ast.Nonlocal, ast.Match, ast.Try, ast.Expr, ast.FunctionDef)
BUILTINS = set("""len range enumerate zip min max sum abs sorted reversed int str bool list tuple dict set isinstance
    ord repr any all divmod ValueError LookupError KeyError NotImplemented map iter next""".split())
METHODS = set("""append clear copy count endswith extend find get index insert isalnum isalpha isdigit islower isspace
    isupper items join keys ljust lower lstrip partition pop remove replace reverse rfind rjust rpartition rsplit rstrip
    setdefault split splitlines startswith strip update upper values zfill bit_length add discard""".split())
NOWHERE = set("""register mro elements open input law version_info with_traceback add_note format format_map type
    enum eval exec getattr setattr hasattr globals locals vars super help exit quit""".split())
DUNDERS = set("""__init__ __eq__ __len__ __contains__ __or__ __and__ __sub__ __invert__ __rshift__ __le__ __lt__ __ge__
    __gt__""".split())
KEYWORDS = {"sorted": {"key", "reverse"}, "min": {"key", "default"}, "max": {"key", "default"}, "sum": {"start"},
            "enumerate": {"start"}, "zip": {"strict"}}
PLAIN_NUMBERS = {"len", "int", "ord", "str", "repr"}


def files():
    return sorted(FOLDER.glob("*.py"))


def trees():
    return [(file.name, ast.parse(file.read_text())) for file in files()]


def nodes(kind):
    return [(name, node) for name, tree in trees() for node in ast.walk(tree) if isinstance(node, kind)]


def is_called(node, names):
    return isinstance(node, ast.Call) and isinstance(node.func, ast.Name) and node.func.id in names


class Files(unittest.TestCase):
    def test_folder(self):
        names = [path.name for path in FOLDER.iterdir() if path.name != "__pycache__"]
        self.assertEqual(sorted(names), [file.name for file in files()])
        self.assertIn("__init__.py", names)

    def test_sizes_and_signs(self):
        for file in files():
            text = file.read_text()
            self.assertLessEqual(len(text.splitlines()), 399, file)
            self.assertLessEqual(max([len(line) for line in text.splitlines()]), 120, file)
            self.assertTrue(all([sign == "\n" or " " <= sign <= "~" for sign in text]), file)

    def test_functions_are_short(self):
        for name, node in nodes(ast.FunctionDef):
            self.assertLessEqual(node.end_lineno - node.lineno + 1, 40, (name, node.name))
            self.assertEqual(node.decorator_list, [], (name, node.name))

    def test_module_level(self):
        for name, tree in trees():
            for at, node in enumerate(tree.body):
                is_text = at == 0 and isinstance(node, ast.Expr) and isinstance(node.value, ast.Constant)
                kinds = (ast.ImportFrom, ast.FunctionDef, ast.ClassDef, ast.Assign)
                self.assertTrue(is_text or isinstance(node, kinds), (name, node.lineno))

    def test_imports(self):
        after = {}
        for name, node in nodes((ast.Import, ast.ImportFrom)):
            self.assertIsInstance(node, ast.ImportFrom)
            self.assertEqual(node.level, 0)
            if node.module not in LIBRARY:
                self.assertTrue(node.module.startswith("pairlaws."), (name, node.module))
                after.setdefault(name, []).append(node.module.split(".")[1] + ".py")
                tree = ast.parse((FOLDER / after[name][-1]).read_text())
                defined = [one.name for one in tree.body if isinstance(one, (ast.FunctionDef, ast.ClassDef))]
                defined += [one.targets[0].id for one in tree.body if isinstance(one, ast.Assign)]
                self.assertTrue(all([alias.name in defined and not alias.asname for alias in node.names]), name)
        left = {file.name for file in files()}
        while left:
            free = {name for name in left if not left & set(after.get(name, []))}
            self.assertTrue(free, f"files import from each other: {left}")
            left = left - free


class Rules(unittest.TestCase):
    def test_statements(self):
        for name, node in nodes(ast.stmt):
            kinds = STATEMENTS + (ast.ImportFrom, ast.ClassDef)
            self.assertIsInstance(node, kinds, (name, node.lineno))

    def test_expressions(self):
        barred = (ast.Yield, ast.YieldFrom, ast.Await, ast.GeneratorExp, ast.SetComp, ast.Set)
        self.assertEqual([(name, node.lineno) for name, node in nodes(barred)], [])
        for name, node in nodes(ast.Constant):
            self.assertNotIsInstance(node.value, (float, complex, bytes))
            if isinstance(node.value, str):
                self.assertNotIn("%", node.value)
        for name, node in nodes(ast.BinOp):
            self.assertNotIsInstance(node.op, (ast.Div, ast.MatMult, ast.Pow), (name, node.lineno))

    def test_is(self):
        for name, node in nodes(ast.Compare):
            for sign, side in zip(node.ops, node.comparators):
                if isinstance(sign, (ast.Is, ast.IsNot)):
                    self.assertIsInstance(side, ast.Constant, (name, node.lineno))
                    self.assertIn(side.value, (None, True, False))

    def test_names(self):
        known = set(dir(builtins))
        for name, node in nodes(ast.Name):
            if isinstance(node.ctx, ast.Load):
                self.assertTrue(node.id not in known or node.id in BUILTINS, (name, node.lineno, node.id))
            else:
                self.assertNotIn(node.id, known | NOWHERE, (name, node.lineno))
        for name, node in nodes(ast.arg):
            self.assertNotIn(node.arg, known | NOWHERE, (name, node.lineno))
        for name, node in nodes((ast.FunctionDef, ast.ClassDef)):
            self.assertTrue(not node.name.startswith("__") or node.name in DUNDERS, (name, node.name))
            self.assertNotIn(node.name, known | NOWHERE)

    def test_names_of_imports(self):
        for name, tree in trees():
            taken = {alias.name for node in ast.walk(tree) if isinstance(node, ast.ImportFrom) for alias in node.names}
            taken |= {node.name for node in ast.walk(tree) if isinstance(node, ast.ClassDef)}
            bound = {node.arg for node in ast.walk(tree) if isinstance(node, ast.arg)}
            bound |= {node.id for node in ast.walk(tree) if isinstance(node, ast.Name)
                      and not isinstance(node.ctx, ast.Load)}
            self.assertEqual(taken & bound, set(), name)

    def test_methods_of_values(self):
        own = {node.name for _, node in nodes(ast.FunctionDef)}
        for name, node in nodes(ast.Call):
            if isinstance(node.func, ast.Attribute):
                self.assertIn(node.func.attr, METHODS | own | {"__init__"}, (name, node.lineno))
                self.assertEqual(node.keywords, [], (name, node.lineno))

    def test_keywords_of_builtins(self):
        for name, node in nodes(ast.Call):
            if is_called(node, set(dir(builtins))):
                found = {keyword.arg for keyword in node.keywords}
                self.assertLessEqual(found, KEYWORDS.get(node.func.id, set()), (name, node.lineno))

    def test_sets_are_counted_or_asked(self):
        for name, tree in trees():
            inside = [part for node in ast.walk(tree) if is_called(node, {"len", "sorted"}) for part in node.args]
            for node in ast.walk(tree):
                if is_called(node, {"set"}):
                    self.assertIn(node, inside, (name, node.lineno))

    def test_what_is_sorted(self):
        # Relations have an order, so that only what is plainly numbers or strings is sorted.
        for name, node in nodes(ast.Call):
            if is_called(node, {"sorted", "min", "max"}):
                first = node.args[0]
                is_plain = isinstance(first, ast.ListComp) and is_called(first.elt, PLAIN_NUMBERS)
                self.assertTrue(is_plain, (name, node.lineno))

    def test_iterators_are_used_at_once(self):
        for name, tree in trees():
            used = [node.iter for node in ast.walk(tree) if isinstance(node, (ast.For, ast.comprehension))]
            used += [node.args[0] for node in ast.walk(tree) if is_called(node, {"list", "reversed", "tuple"})]
            for node in ast.walk(tree):
                if is_called(node, {"zip", "enumerate", "reversed", "range"}):
                    self.assertIn(node, used, (name, node.lineno))


if __name__ == "__main__":
    unittest.main()
