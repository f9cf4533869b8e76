"""../shared/LANGUAGE.md and [1]: what can be seen of its rules in the files of the package."""

import ast
import builtins
import pathlib
import unittest

PACKAGE = pathlib.Path(__file__).resolve().parent.parent / "blendworlds"
FILES = sorted(PACKAGE.rglob("*.py"))
LIBRARY = {"heapq": {"heappush", "heappop", "heapify", "heapreplace", "heappushpop"},
           "math": {"gcd", "lcm", "isqrt", "comb", "perm", "factorial"},
           "itertools": {"product", "combinations", "permutations"}}
BUILTINS = set("""len range enumerate zip min max sum abs sorted reversed int str bool bytes list tuple dict set frozenset
    isinstance ord chr repr any all divmod pow Exception ValueError TypeError KeyError IndexError LookupError
    ZeroDivisionError ArithmeticError OverflowError RuntimeError NotImplementedError NotImplemented""".split())
METHODS = set("""append clear copy count endswith extend find get index insert isalnum isalpha isdigit islower isspace
    isupper items join keys ljust lower lstrip partition pop remove replace reverse rfind rjust rpartition rsplit rstrip
    setdefault split splitlines startswith strip update upper values zfill bit_length add discard sort""".split())
# what the package does without: some of it the rules would let, within limits that are not checked here
BARRED = (ast.GeneratorExp, ast.Yield, ast.YieldFrom, ast.Global, ast.Nonlocal, ast.Lambda, ast.AsyncFunctionDef, ast.Await,
          ast.Div, ast.MatMult, ast.Pow, ast.With, ast.Match, ast.Starred, ast.JoinedStr, ast.Delete, ast.NamedExpr)
# what iterates at once over the range, zip and the like that it is given
FEEDING = set("""list tuple dict sorted sum any all min max enumerate zip reversed len combinations permutations""".split())


def functions_of(tree):
    return [node for node in ast.walk(tree) if isinstance(node, ast.FunctionDef)]


def assigned_names(tree):
    """All names that are parameters, variables, functions or classes."""
    names = [node.id for node in ast.walk(tree) if isinstance(node, ast.Name) and isinstance(node.ctx, ast.Store)]
    names += [node.arg for node in ast.walk(tree) if isinstance(node, ast.arg)]
    return names + [node.name for node in ast.walk(tree) if isinstance(node, (ast.FunctionDef, ast.ClassDef))]


def module_of(path):
    return ".".join(path.relative_to(PACKAGE.parent).with_suffix("").parts)


class LanguageTest(unittest.TestCase):
    def each(self):
        return [(path, path.read_text(), ast.parse(path.read_text())) for path in FILES]

    def test_files(self):
        others = [part.name for part in PACKAGE.iterdir() if part.suffix != ".py" and part.name != "__pycache__"]
        self.assertEqual(others, [])
        self.assertIn(PACKAGE / "__init__.py", FILES)

    def test_size_and_characters(self):
        for _, text, tree in self.each():
            lines = text.splitlines()
            self.assertLessEqual(len(lines), 399)
            self.assertLessEqual(max(map(len, lines)), 120)
            self.assertTrue(all(" " <= sign <= "~" or sign == "\n" for sign in text))
            for function in functions_of(tree):
                self.assertLessEqual(function.end_lineno - function.lineno + 1, 40, function.name)

    def test_statements_and_expressions(self):
        for _, _, tree in self.each():
            for node in ast.walk(tree):
                self.assertNotIsInstance(node, BARRED, ast.dump(node)[:100])
                if isinstance(node, ast.Constant):
                    self.assertNotIsInstance(node.value, (float, complex))
                if isinstance(node, (ast.FunctionDef, ast.ClassDef)):
                    self.assertEqual(node.decorator_list, [])
                if isinstance(node, ast.Compare):
                    for sign, side in zip(node.ops, node.comparators):
                        if isinstance(sign, (ast.Is, ast.IsNot)):
                            self.assertIsInstance(side, ast.Constant)

    def test_module_level(self):
        for _, _, tree in self.each():
            self.assertIsNotNone(ast.get_docstring(tree))
            for node in tree.body[1:]:
                if isinstance(node, ast.Assign):
                    # a plain value once, or a table of functions
                    self.assertEqual([type(part) for part in node.targets], [ast.Name])
                    self.assertIsInstance(node.value, (ast.Constant, ast.Dict, ast.List, ast.Tuple))
                    continue
                self.assertIsInstance(node, (ast.ImportFrom, ast.FunctionDef, ast.ClassDef))
            for function in functions_of(tree):
                nested = [part for part in ast.walk(function) if isinstance(part, ast.FunctionDef)]
                self.assertEqual(nested, [function])

    def test_imports(self):
        needs = {}
        for path, _, tree in self.each():
            defined = {}
            needs[module_of(path)] = set()
            for node in [part for part in ast.walk(tree) if isinstance(part, (ast.Import, ast.ImportFrom))]:
                self.assertIsInstance(node, ast.ImportFrom)
                self.assertEqual(node.level, 0)
                for name in node.names:
                    self.assertIsNone(name.asname)
                    self.assertNotIn(name.name, defined)
                    defined[name.name] = True
                    if node.module in LIBRARY:
                        self.assertIn(name.name, LIBRARY[node.module])
                        continue
                    needs[module_of(path)].add(node.module)
                    home = ast.parse((PACKAGE.parent / (node.module.replace(".", "/") + ".py")).read_text())
                    self.assertIn(name.name, [getattr(part, "name", None) for part in home.body])
                self.assertIn(node, tree.body)
            used = {node.id for node in ast.walk(tree) if isinstance(node, ast.Name)}
            self.assertLessEqual(set(defined), used)
        while needs:
            free = [name for name, others in needs.items() if not others & set(needs)]
            self.assertTrue(free, "files import from each other")
            for name in free:
                del needs[name]

    def test_names(self):
        for _, _, tree in self.each():
            imported = {name.name for node in tree.body if isinstance(node, ast.ImportFrom) for name in node.names}
            classes = {node.name for node in tree.body if isinstance(node, ast.ClassDef)}
            top = [node.name for node in tree.body if isinstance(node, (ast.FunctionDef, ast.ClassDef))]
            self.assertEqual(len(top), len(set(top)))
            names = assigned_names(tree)
            self.assertEqual([name for name in names if name in imported], [])
            self.assertEqual([name for name in names if name in dir(builtins)], [])
            self.assertEqual([name for name in names if name.startswith("_") and name not in ("_", "__init__", "__eq__", "__len__")], [])
            for function in functions_of(tree):
                local = assigned_names(function)[:-1] if function.name in classes else assigned_names(function)
                self.assertFalse(classes & set(local), function.name)

    def test_errors_that_are_caught(self):
        own = {node.name for node in ast.parse((PACKAGE / "errors.py").read_text()).body if isinstance(node, ast.ClassDef)}
        for _, _, tree in self.each():
            for node in [part for part in ast.walk(tree) if isinstance(part, ast.Try)]:
                self.assertEqual((node.orelse, node.finalbody), ([], []))
                names = [handler.name for handler in node.handlers if handler.name]
                self.assertEqual(len(names), len(set(names)))
                for handler in node.handlers:
                    self.assertIn(handler.type.id, own)
                    self.assertNotIn(handler.name, assigned_names(tree))

    def test_classes(self):
        for _, _, tree in self.each():
            for node in [part for part in ast.walk(tree) if isinstance(part, ast.ClassDef)]:
                methods = [part.name for part in node.body if isinstance(part, ast.FunctionDef)]
                stored = {part.attr for part in ast.walk(node) if isinstance(part, ast.Attribute) and isinstance(part.ctx, ast.Store)}
                self.assertEqual(len(methods), len(set(methods)))
                self.assertFalse(stored & set(methods))
                for method in [part for part in node.body if getattr(part, "name", "") in ("__eq__", "__len__")]:
                    self.assertEqual([type(part) for part in method.body], [ast.Return])

    def test_calls(self):
        own = {node.name for _, _, tree in self.each() for node in ast.walk(tree)
               if isinstance(node, (ast.FunctionDef, ast.ClassDef))}
        for _, _, tree in self.each():
            known = set(assigned_names(tree)) | {name.name for node in tree.body if isinstance(node, ast.ImportFrom)
                                                 for name in node.names}
            known |= {node.name for node in ast.walk(tree) if isinstance(node, ast.ExceptHandler)}
            for node in ast.walk(tree):
                if isinstance(node, ast.Name) and node.id not in known:
                    self.assertIn(node.id, BUILTINS)
                if isinstance(node, ast.Call) and isinstance(node.func, ast.Attribute):
                    self.assertIn(node.func.attr, METHODS | own)

    def test_sets_are_sorted_or_counted_at_once(self):
        for _, _, tree in self.each():
            inside = [part for node in ast.walk(tree) if isinstance(node, ast.Call) and isinstance(node.func, ast.Name)
                      and node.func.id in ("sorted", "len") for part in node.args]
            for node in ast.walk(tree):
                self.assertNotIsInstance(node, (ast.Set, ast.SetComp))
                if isinstance(node, ast.Call) and isinstance(node.func, ast.Name) and node.func.id == "set":
                    self.assertIn(node, inside)

    def test_what_is_iterated_at_once(self):
        for _, _, tree in self.each():
            fed = [node.iter for node in ast.walk(tree) if isinstance(node, (ast.For, ast.comprehension))]
            fed += [part for node in ast.walk(tree) if isinstance(node, ast.Call) and isinstance(node.func, ast.Name)
                    and node.func.id in FEEDING for part in node.args[:1]]
            for node in ast.walk(tree):
                if isinstance(node, ast.Call) and isinstance(node.func, ast.Name):
                    if node.func.id in ("zip", "enumerate", "reversed", "range", "product", "combinations", "permutations"):
                        self.assertIn(node, fed, ast.unparse(node))

    def test_what_products_take(self):
        for _, _, tree in self.each():
            for node in ast.walk(tree):
                if isinstance(node, ast.Call) and isinstance(node.func, ast.Name) and node.func.id in LIBRARY["itertools"]:
                    self.assertEqual(node.keywords, [])
                    for part in node.args[1:]:
                        self.assertRegex(ast.unparse(part), r"^(many|[0-9]|len\(\w+\))$")


if __name__ == "__main__":
    unittest.main()
