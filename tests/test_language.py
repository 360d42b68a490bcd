"""Some of the rules for the files of the package that a look at the code can tell (by their numbers)."""

import ast
import builtins
import pathlib
import re
import unittest

PACKAGE = pathlib.Path(__file__).parent.parent / "talkedalike"
FILES = sorted(path for path in PACKAGE.rglob("*") if path.is_file() and "__pycache__" not in path.parts)
LIBRARY = {"heapq", "math", "itertools", "collections", "__future__"}
BUILTINS = dir(builtins)
EATERS = {"any", "all", "min", "max", "sum", "sorted"}


def nodes(path, kind):
    return [node for node in ast.walk(ast.parse(path.read_text(encoding="utf-8"))) if isinstance(node, kind)]


class LanguageTest(unittest.TestCase):
    def test_l1_l14_files(self):
        self.assertIn(PACKAGE / "__init__.py", FILES)
        for path in FILES:
            self.assertRegex(path.name, r"\A[a-z_][a-z0-9_]*\.py\Z")

    def test_l10_sizes(self):
        for path in FILES:
            lines = path.read_text(encoding="utf-8").split("\n")
            self.assertLessEqual(len(lines), 399, path)
            self.assertEqual([line for line in lines if len(line) > 120], [])
            for node in nodes(path, (ast.FunctionDef, ast.Lambda)):
                self.assertLessEqual(node.end_lineno - node.lineno + 1, 40, (path, node.lineno))

    def test_l14_characters(self):
        for path in FILES:
            self.assertRegex(path.read_bytes(), rb"\A[ -~\n]*\Z", path)

    def test_l2_l16_imports(self):
        for path in FILES:
            self.assertEqual([node.names[0].name for node in nodes(path, ast.Import)], [])
            for node in nodes(path, ast.ImportFrom):
                self.assertEqual(node.level, 0)
                own = re.fullmatch(r"talkedalike\.[a-z]+", node.module)
                self.assertTrue(own or node.module in LIBRARY, node.module)
                self.assertEqual([name.name for name in node.names if name.asname or name.name == "*"], [])

    def test_l7_functions_of_many_take_lists(self):
        for path in FILES:
            for node in nodes(path, ast.Call):
                if isinstance(node.func, ast.Name) and node.func.id in EATERS:
                    self.assertNotIsInstance(node.args[0], ast.GeneratorExp, (path, node.lineno))

    def test_l6_l7_l25_words(self):
        never = (ast.Global, ast.AsyncFunctionDef, ast.Await, ast.Div)
        for path in FILES:
            self.assertEqual([(path, node.lineno) for node in nodes(path, never[:-1])], [])
            self.assertEqual(nodes(path, never[-1]), [])
            for node in nodes(path, ast.Constant):
                self.assertNotIsInstance(node.value, (float, complex))
            for node in nodes(path, ast.Attribute):
                self.assertNotEqual(node.attr, "sort")

    def test_l15_no_name_of_an_import_or_a_class_of_the_file(self):
        for path in FILES:
            taken = [name.name for node in nodes(path, ast.ImportFrom) for name in node.names]
            taken += [node.name for node in nodes(path, ast.ClassDef)]
            named = [node.id for node in nodes(path, ast.Name) if isinstance(node.ctx, ast.Store)]
            named += [node.arg for node in nodes(path, ast.arg)] + [node.name for node in nodes(path, ast.FunctionDef)]
            self.assertEqual([name for name in named if name in taken], [], path)
            self.assertEqual(len(taken), len(set(taken)), path)

    def test_l16_no_two_files_import_from_each_other(self):
        imported = {"talkedalike." + path.stem: [node.module for node in nodes(path, ast.ImportFrom)] for path in FILES}
        done = []
        while len(done) < len(imported):
            free = [name for name in imported if name not in done
                    and all(module in done or module not in imported for module in imported[name])]
            self.assertNotEqual(free, [], sorted(set(imported) - set(done)))
            done += free

    def test_l16_what_is_imported_is_defined_in_that_very_file(self):
        for path in FILES:
            for node in nodes(path, ast.ImportFrom):
                if node.module.startswith("talkedalike."):
                    source = ast.parse((PACKAGE / (node.module.split(".")[1] + ".py")).read_text(encoding="utf-8"))
                    defined = [each.name for each in source.body if isinstance(each, (ast.FunctionDef, ast.ClassDef))]
                    defined += [each.targets[0].id for each in source.body if isinstance(each, ast.Assign)]
                    self.assertEqual([name.name for name in node.names if name.name not in defined], [], path)

    def test_l17_words(self):
        barred = {"register", "mro", "elements", "open", "input", "law", "eval", "exec", "globals", "locals", "vars", "dir",
                  "id", "type", "getattr", "hasattr", "setattr", "super", "compile", "exit", "quit", "help"}
        for path in FILES:
            named = [node.id for node in nodes(path, ast.Name)] + [node.attr for node in nodes(path, ast.Attribute)]
            named += [node.arg for node in nodes(path, (ast.arg, ast.keyword))]
            named += [node.name for node in nodes(path, (ast.FunctionDef, ast.ClassDef))]
            self.assertEqual([name for name in named if name in barred], [], path)

    def test_l15_no_name_of_a_builtin(self):
        for path in FILES:
            named = [node.id for node in nodes(path, ast.Name) if isinstance(node.ctx, ast.Store)]
            named += [node.arg for node in nodes(path, ast.arg)]
            at_top = [node.name for node in ast.parse(path.read_text()).body
                      if isinstance(node, (ast.FunctionDef, ast.ClassDef))]
            self.assertEqual([name for name in named + at_top if name in BUILTINS], [])


if __name__ == "__main__":
    unittest.main()
