"""The form of the package's files, as far as a short look can tell it: LANGUAGE.md, L1 to L28."""

import ast
import builtins
import pathlib
import re
import unittest

FOLDER = pathlib.Path(__file__).resolve().parent.parent / "quadwords"
FILES = sorted(FOLDER.glob("*.py"))
WORDS_OUT = ("type typing typing_extensions enum Enum IntEnum StrEnum Flag IntFlag Generic Protocol ABC ABCMeta "
             "namedtuple NamedTuple TypedDict TYPE_CHECKING abstractmethod").split()
OWN_OF_PYTHON = ("len range enumerate zip min max sum abs sorted reversed int str bool bytes list tuple dict set "
                 "isinstance ord repr any all divmod ValueError KeyError ZeroDivisionError IndexError").split()
NODES_OUT = (ast.With, ast.Global, ast.Nonlocal, ast.Yield, ast.YieldFrom, ast.Await, ast.AsyncFunctionDef, ast.Match,
             ast.GeneratorExp, ast.NamedExpr, ast.Div, ast.Import)
METHODS_OF_PYTHON = ("append clear copy count endswith extend find get index insert items join keys pop remove replace "
                     "reverse setdefault split startswith strip update upper lower values zfill isdigit").split()
WALKED_AT_ONCE = "zip enumerate reversed range".split()


def trees():
    return [(path.name, ast.parse(path.read_text("ascii"))) for path in FILES]


class Language(unittest.TestCase):
    def test_nothing_but_python_files_lies_in_the_package(self):
        others = [path.name for path in FOLDER.iterdir() if path not in FILES and path.name != "__pycache__"]
        self.assertEqual(others, [])

    def test_signs_and_sizes(self):
        for path in FILES:
            text = path.read_bytes().decode("ascii")
            self.assertIsNone(re.search("[^ -~\n]", text), path.name)
            rows = text.split("\n")
            self.assertLessEqual(len(rows), 400, path.name)
            self.assertLessEqual(max(len(row) for row in rows), 120, path.name)

    def test_words_that_stand_nowhere(self):
        for path in FILES:
            words = re.findall("[A-Za-z_]+", path.read_text("ascii"))
            self.assertEqual([word for word in words if word in WORDS_OUT], [], path.name)

    def test_functions_are_short_and_undecorated(self):
        for name, tree in trees():
            for node in ast.walk(tree):
                if isinstance(node, ast.FunctionDef):
                    self.assertLessEqual(node.end_lineno - node.lineno + 1, 40, (name, node.name))
                    self.assertEqual(node.decorator_list, [], (name, node.name))

    def test_statements_that_are_out(self):
        for name, tree in trees():
            found = [node for node in ast.walk(tree) if isinstance(node, NODES_OUT)]
            self.assertEqual(found, [], name)

    def test_imports_are_the_packages_own(self):
        for name, tree in trees():
            for node in ast.walk(tree):
                if isinstance(node, ast.ImportFrom):
                    self.assertEqual((node.level, node.module.split(".")[0]), (0, "quadwords"), name)

    def test_names_are_plain_and_known(self):
        for name, tree in trees():
            nodes = list(ast.walk(tree))
            bound = {node.id for node in nodes if isinstance(node, ast.Name) and isinstance(node.ctx, ast.Store)}
            bound |= {node.arg for node in nodes if isinstance(node, ast.arg)}
            bound |= {node.name for node in nodes if isinstance(node, (ast.FunctionDef, ast.ClassDef))}
            drawn = {each.name for node in nodes if isinstance(node, ast.ImportFrom) for each in node.names}
            read = {node.id for node in nodes if isinstance(node, ast.Name) and isinstance(node.ctx, ast.Load)}
            self.assertEqual(sorted(bound & (drawn | set(dir(builtins)))), [], name)
            self.assertEqual([each for each in sorted(bound - {"__init__"}) if each.startswith("_")], [], name)
            self.assertEqual(sorted(read - bound - drawn - set(OWN_OF_PYTHON)), [], name)

    def test_is_stands_beside_none_and_truths_alone(self):
        for name, tree in trees():
            for node in ast.walk(tree):
                if isinstance(node, ast.Compare) and any(isinstance(sign, (ast.Is, ast.IsNot)) for sign in node.ops):
                    things = [node.left, *node.comparators]
                    plain = [each for each in things if isinstance(each, ast.Constant) and each.value in (None, True, False)]
                    self.assertTrue(plain, (name, node.lineno))

    def test_methods_are_listed_or_own(self):
        nodes = [node for name, tree in trees() for node in ast.walk(tree)]
        own = {each.name for node in nodes if isinstance(node, ast.ClassDef) for each in node.body
               if isinstance(each, ast.FunctionDef)}
        values = {node.attr for node in nodes if isinstance(node, ast.Attribute) and isinstance(node.ctx, ast.Store)}
        self.assertEqual(sorted(own & values), [])
        own |= values
        for name, tree in trees():
            for node in ast.walk(tree):
                if isinstance(node, ast.Attribute):
                    self.assertIn(node.attr, own.union(METHODS_OF_PYTHON), (name, node.lineno))

    def test_walks_are_not_kept(self):
        for name, tree in trees():
            for node in ast.walk(tree):
                if isinstance(node, (ast.Assign, ast.Return)) and isinstance(node.value, ast.Call):
                    self.assertNotIn(getattr(node.value.func, "id", ""), WALKED_AT_ONCE, (name, node.lineno))

    def test_no_two_files_draw_from_one_another(self):
        drawn = {name[:-3]: {node.module.split(".")[1] for node in ast.walk(tree) if isinstance(node, ast.ImportFrom)}
                 for name, tree in trees()}
        while drawn:
            free = [name for name in drawn if not drawn[name] & set(drawn)]
            self.assertNotEqual(free, [], drawn)
            drawn = {name: drawn[name] for name in drawn if name not in free}


if __name__ == "__main__":
    unittest.main()
