"""The rules of the language subset that can be seen from the text of the package alone."""

import ast
import builtins
import pathlib
import unittest

FOLDER = pathlib.Path(__file__).resolve().parent.parent / "wishshown"
FILES = sorted(FOLDER.glob("*.py"))
BUILTINS = set("""len range enumerate zip min max sum abs sorted reversed int str bool list tuple dict set isinstance ord
    repr any all divmod ValueError KeyError iter next""".split())
METHODS = set("""append clear copy count endswith extend find get index insert isalnum isalpha isdigit islower isspace
    isupper items join keys ljust lower lstrip partition pop remove replace reverse rfind rjust rpartition rsplit rstrip
    setdefault split splitlines startswith strip update upper values zfill bit_length add discard""".split())
LIBRARY = {"heapq": ["heappop", "heappush"]}
NO_ATTRIBUTES = set("""items keys values pop update append clear extend insert remove reverse setdefault sort args encode
    decode hex fromhex format format_map mro rows facts count delete database can_undo can_redo""".split())


def trees():
    return {path: ast.parse(path.read_text()) for path in FILES}


def nodes(tree, *kinds):
    return [node for node in ast.walk(tree) if isinstance(node, kinds)]


class Language(unittest.TestCase):
    def test_the_folder_holds_its_files_only(self):
        others = [path.name for path in FOLDER.iterdir() if path not in FILES and path.name != "__pycache__"]
        self.assertEqual(others, [])
        self.assertTrue((FOLDER / "__init__.py").exists())

    def test_characters_and_sizes(self):
        for path in FILES:
            text = path.read_text()
            self.assertTrue(all(letter == "\n" or " " <= letter <= "~" for letter in text), path)
            lines = text.split("\n")
            self.assertLessEqual(len(lines), 399, path)
            self.assertEqual([line for line in lines if len(line) > 120 or line != line.rstrip()], [], path)

    def test_functions_are_short(self):
        for path, tree in trees().items():
            for function in nodes(tree, ast.FunctionDef):
                self.assertLessEqual(function.end_lineno - function.lineno + 1, 40, (path, function.name))

    def test_imports_name_what_a_file_of_the_package_defines_and_are_used(self):
        defined = dict(LIBRARY)
        for path, tree in trees().items():
            defined[f"wishshown.{path.stem}"] = [
                name for node in tree.body
                for name in ([node.name] if isinstance(node, (ast.FunctionDef, ast.ClassDef)) else
                             [target.id for target in node.targets] if isinstance(node, ast.Assign) else [])]
        for path, tree in trees().items():
            self.assertEqual(nodes(tree, ast.Import), [])
            used = {node.id for node in nodes(tree, ast.Name)}
            for node in nodes(tree, ast.ImportFrom):
                self.assertEqual(node.level, 0)
                for name in node.names:
                    self.assertIn(name.name, defined[node.module], path)
                    self.assertIn(name.asname or name.name, used, path)

    def test_no_two_files_import_from_each_other(self):
        above = {f"wishshown.{path.stem}": {node.module for node in nodes(tree, ast.ImportFrom)}
                 for path, tree in trees().items()}
        while above:
            free = [module for module, others in above.items() if not others & set(above)]
            self.assertNotEqual(free, [], above)
            above = {module: others for module, others in above.items() if module not in free}

    def test_names_are_bound_once_and_no_builtin_is_bound(self):
        for path, tree in trees().items():
            top = [node.name for node in tree.body if isinstance(node, (ast.FunctionDef, ast.ClassDef))]
            top += [target.id for node in tree.body if isinstance(node, ast.Assign) for target in node.targets]
            brought = [name.name for node in nodes(tree, ast.ImportFrom) for name in node.names]
            self.assertEqual(len(set(top + brought)), len(top + brought), path)
            classes = [node.name for node in nodes(tree, ast.ClassDef)]
            inner = [node.id for node in nodes(tree, ast.Name) if isinstance(node.ctx, (ast.Store, ast.Del))]
            inner += [node.arg for node in nodes(tree, ast.arg)]
            self.assertEqual([name for name in inner if name in brought + classes], [], path)
            self.assertEqual([name for name in inner + top if name in vars(builtins)], [], path)

    def test_builtins_and_methods(self):
        own = {node.name for tree in trees().values() for node in nodes(tree, ast.FunctionDef)}
        for path, tree in trees().items():
            over = [each for function in nodes(tree, ast.FunctionDef) for each in function.decorator_list]
            self.assertEqual([each for each in over if not isinstance(each, ast.Name) or each.id != "property"], [])
            read = {node.id for node in nodes(tree, ast.Name) if node.id in vars(builtins) and node not in over}
            self.assertEqual(read - BUILTINS, set(), path)
            called = {node.func.attr for node in nodes(tree, ast.Call) if isinstance(node.func, ast.Attribute)}
            self.assertEqual(called - METHODS - own, set(), path)

    def test_values(self):
        for path, tree in trees().items():
            self.assertEqual(nodes(tree, ast.Global, ast.AsyncFunctionDef, ast.Div, ast.Import), [], path)
            values = [node.value for node in nodes(tree, ast.Constant)]
            self.assertEqual([value for value in values if isinstance(value, float)], [], path)
            self.assertEqual([value for value in values if isinstance(value, str) and "%" in value], [], path)

    def test_attributes(self):
        for path, tree in trees().items():
            stored = {node.attr for node in nodes(tree, ast.Attribute) if isinstance(node.ctx, ast.Store)}
            self.assertEqual(stored & NO_ATTRIBUTES, set(), path)

    def test_sorted_takes_no_generator(self):
        for path, tree in trees().items():
            calls = [node for node in nodes(tree, ast.Call) if isinstance(node.func, ast.Name)]
            generators = [call for call in calls if call.func.id == "sorted"
                          and isinstance(call.args[0], ast.GeneratorExp)]
            self.assertEqual(generators, [], path)

    def test_properties_and_operators_are_short(self):
        # What they may do is told narrowly, so each of them is a single statement that calls hardly anything.
        for path, tree in trees().items():
            for function in nodes(tree, ast.FunctionDef):
                if function.decorator_list or function.name in ("__len__", "__iter__", "__contains__"):
                    rows = [row for row in function.body if not isinstance(row, ast.Expr)]
                    called = {node.func.id for node in nodes(function, ast.Call)}
                    self.assertTrue(len(rows) == 1 and isinstance(rows[0], ast.Return), (path, function.name))
                    self.assertLessEqual(called, {"len", "iter", "list"}, (path, function.name))

    def test_generators_have_names_of_their_own(self):
        functions = [node for tree in trees().values() for node in nodes(tree, ast.FunctionDef)]
        generators = [node.name for node in functions if nodes(node, ast.Yield, ast.YieldFrom)]
        names = [node.name for node in functions]
        self.assertEqual([name for name in generators if names.count(name) > 1], [])
