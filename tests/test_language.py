"""The form of the package's files, as far as a short look can tell it: LANGUAGE.md, L1 to L28."""

import ast
import builtins
import pathlib
import re
import unittest

FOLDER = pathlib.Path(__file__).resolve().parent.parent / "quadwords"
FILES = sorted(FOLDER.glob("*.py"))
WORDS_OUT = ("type typing typing_extensions enum Enum IntEnum StrEnum Flag IntFlag Generic Protocol ABC ABCMeta "
             "namedtuple NamedTuple TypedDict TYPE_CHECKING abstractmethod").split()
OWN_OF_PYTHON = ("len range enumerate zip min max sum abs sorted reversed int str bool bytes list tuple dict set "
                 "isinstance ord repr any all divmod ValueError KeyError ZeroDivisionError IndexError").split()
NODES_OUT = (ast.With, ast.Global, ast.Nonlocal, ast.Yield, ast.YieldFrom, ast.Await, ast.AsyncFunctionDef, ast.Match,
             ast.GeneratorExp, ast.NamedExpr, ast.Div, ast.Import)
METHODS_OF_PYTHON = ("append clear copy count endswith extend find get index insert items join keys pop remove replace "
                     "reverse setdefault split startswith strip update upper lower values zfill isdigit").split()
WALKED_AT_ONCE = "zip enumerate reversed range".split()
WALKS_OF_DICTS = "items keys values".split()
WALKERS = "list tuple dict sorted sum any all enumerate zip bytes min max".split()
STATEMENTS = (ast.Assign, ast.AugAssign, ast.If, ast.While, ast.For, ast.Return, ast.Break, ast.Continue, ast.Pass,
              ast.Raise,
              ast.Try, ast.Expr, ast.FunctionDef, ast.Assert, ast.Delete)
AT_THE_TOP = (ast.ImportFrom, ast.FunctionDef, ast.ClassDef, ast.Assign)
NAMES_OUT = ("register mro elements open input version_info with_traceback add_note attrgetter breakpoint builtins compile "
             "copyright credits delattr dir eval exec exit gc getattr globals hasattr help id importlib license locals "
             "methodcaller os quit setattr super vars sys chr frozenset").split()
KEYWORDS = {"sorted": ["key", "reverse"], "min": ["key", "default"], "max": ["key", "default"], "sum": ["start"],
            "enumerate": ["start"], "zip": ["strict"]}


def trees():
    return [(path.name, ast.parse(path.read_text("ascii"))) for path in FILES]


def with_parents():
    """Each file's nodes, with the node that holds each."""
    for name, tree in trees():
        parents = {child: node for node in ast.walk(tree) for child in ast.iter_child_nodes(node)}
        yield name, tree, parents


def called(node):
    """The name by which a node calls something, or the empty text."""
    return node.func.id if isinstance(node, ast.Call) and isinstance(node.func, ast.Name) else ""


def is_docstring(node):
    return isinstance(node, ast.Expr) and isinstance(node.value, ast.Constant) and isinstance(node.value.value, str)


class Language(unittest.TestCase):
    def test_nothing_but_python_files_lies_in_the_package(self):
        others = [path.name for path in FOLDER.iterdir() if path not in FILES and path.name != "__pycache__"]
        self.assertEqual(others, [])

    def test_signs_and_sizes(self):
        for path in FILES:
            text = path.read_bytes().decode("ascii")
            self.assertIsNone(re.search("[^ -~\n]", text), path.name)
            rows = text.split("\n")
            self.assertLessEqual(len(rows), 400, path.name)
            self.assertLessEqual(max(len(row) for row in rows), 120, path.name)

    def test_words_that_stand_nowhere(self):
        for path in FILES:
            words = re.findall("[A-Za-z_]+", path.read_text("ascii"))
            self.assertEqual([word for word in words if word in WORDS_OUT], [], path.name)

    def test_functions_are_short_and_undecorated(self):
        for name, tree in trees():
            for node in ast.walk(tree):
                if isinstance(node, ast.FunctionDef):
                    self.assertLessEqual(node.end_lineno - node.lineno + 1, 40, (name, node.name))
                    self.assertEqual(node.decorator_list, [], (name, node.name))

    def test_statements_that_are_out(self):
        for name, tree in trees():
            found = [node for node in ast.walk(tree) if isinstance(node, NODES_OUT)]
            self.assertEqual(found, [], name)

    def test_imports_are_the_packages_own(self):
        for name, tree in trees():
            for node in ast.walk(tree):
                if isinstance(node, ast.ImportFrom):
                    self.assertEqual((node.level, node.module.split(".")[0]), (0, "quadwords"), name)

    def test_names_are_plain_and_known(self):
        for name, tree in trees():
            nodes = list(ast.walk(tree))
            bound = {node.id for node in nodes if isinstance(node, ast.Name) and isinstance(node.ctx, ast.Store)}
            bound |= {node.arg for node in nodes if isinstance(node, ast.arg)}
            bound |= {node.name for node in nodes if isinstance(node, (ast.FunctionDef, ast.ClassDef))}
            drawn = {each.name for node in nodes if isinstance(node, ast.ImportFrom) for each in node.names}
            read = {node.id for node in nodes if isinstance(node, ast.Name) and isinstance(node.ctx, ast.Load)}
            self.assertEqual(sorted(bound & (drawn | set(dir(builtins)))), [], name)
            self.assertEqual([each for each in sorted(bound - {"__init__"}) if each.startswith("_")], [], name)
            self.assertEqual(sorted(read - bound - drawn - set(OWN_OF_PYTHON)), [], name)

    def test_is_stands_beside_none_and_truths_alone(self):
        for name, tree in trees():
            for node in ast.walk(tree):
                if isinstance(node, ast.Compare) and any(isinstance(sign, (ast.Is, ast.IsNot)) for sign in node.ops):
                    things = [node.left, *node.comparators]
                    plain = [each for each in things if isinstance(each, ast.Constant) and each.value in (None, True, False)]
                    self.assertTrue(plain, (name, node.lineno))

    def test_methods_are_listed_or_own(self):
        nodes = [node for name, tree in trees() for node in ast.walk(tree)]
        own = {each.name for node in nodes if isinstance(node, ast.ClassDef) for each in node.body
               if isinstance(each, ast.FunctionDef)}
        values = {node.attr for node in nodes if isinstance(node, ast.Attribute) and isinstance(node.ctx, ast.Store)}
        self.assertEqual(sorted(own & values), [])
        own |= values
        for name, tree in trees():
            for node in ast.walk(tree):
                if isinstance(node, ast.Attribute):
                    self.assertIn(node.attr, own.union(METHODS_OF_PYTHON), (name, node.lineno))

    def test_walks_are_not_kept(self):
        for name, tree in trees():
            for node in ast.walk(tree):
                if isinstance(node, (ast.Assign, ast.Return)) and isinstance(node.value, ast.Call):
                    self.assertNotIn(getattr(node.value.func, "id", ""), WALKED_AT_ONCE, (name, node.lineno))

    def test_walks_stand_where_they_are_walked(self):
        for name, tree, parents in with_parents():
            for node in ast.walk(tree):
                method = node.func.attr if isinstance(node, ast.Call) and isinstance(node.func, ast.Attribute) else ""
                if called(node) in WALKED_AT_ONCE or method in WALKS_OF_DICTS:
                    above = parents[node]
                    walked = isinstance(above, (ast.For, ast.comprehension)) and above.iter is node
                    self.assertTrue(walked or called(above) in WALKERS, (name, node.lineno))

    def test_sets_stand_within_sorted_or_len_or_behind_in(self):
        for name, tree, parents in with_parents():
            for node in ast.walk(tree):
                if isinstance(node, (ast.Set, ast.SetComp)) or called(node) == "set":
                    above = parents[node]
                    asked = isinstance(above, ast.Compare) and isinstance(above.ops[0], (ast.In, ast.NotIn))
                    self.assertTrue(asked or called(above) in ["sorted", "len"], (name, node.lineno))

    def test_the_top_of_a_file(self):
        for name, tree in trees():
            self.assertTrue(is_docstring(tree.body[0]), name)
            self.assertTrue(all(isinstance(node, AT_THE_TOP) for node in tree.body[1:]), name)
            bound = []
            for node in tree.body[1:]:
                bound += [each.name for each in node.names] if isinstance(node, ast.ImportFrom) else []
                bound += [node.name] if isinstance(node, (ast.FunctionDef, ast.ClassDef)) else []
                bound += [each.id for each in node.targets] if isinstance(node, ast.Assign) else []
            self.assertEqual(len(set(bound)), len(bound), name)

    def test_statements_and_parameters(self):
        for name, tree in trees():
            for node in ast.walk(tree):
                if isinstance(node, ast.FunctionDef):
                    rows = [each for each in ast.walk(node) if isinstance(each, ast.stmt)]
                    self.assertTrue(all(isinstance(each, STATEMENTS) for each in rows), (name, node.name))
                    args = node.args
                    self.assertEqual((args.vararg, args.kwarg, args.posonlyargs, args.defaults), (None, None, [], []),
                                     name)
                if isinstance(node, (ast.For, ast.While)):
                    self.assertEqual(node.orelse, [], (name, node.lineno))

    def test_classes_hold_methods_alone(self):
        for name, tree in trees():
            for node in ast.walk(tree):
                if isinstance(node, ast.ClassDef):
                    self.assertLessEqual(len(node.bases), 1, (name, node.name))
                    self.assertEqual((node.keywords, node.decorator_list), ([], []), (name, node.name))
                    held = [each for each in node.body if not is_docstring(each)]
                    self.assertTrue(all(isinstance(each, ast.FunctionDef) for each in held), (name, node.name))

    def test_names_that_are_not_used(self):
        for name, tree in trees():
            for node in ast.walk(tree):
                found = [getattr(node, field, None) for field in ["id", "attr", "name", "arg"]]
                self.assertEqual([each for each in found if each in NAMES_OUT], [], (name, getattr(node, "lineno", 0)))

    def test_values_and_powers(self):
        for name, tree in trees():
            for node in ast.walk(tree):
                if isinstance(node, ast.Constant):
                    self.assertIsInstance(node.value, (int, str, type(None)), (name, node.lineno))
                    self.assertNotIn("%", str(node.value), (name, node.lineno))
                if isinstance(node, ast.Starred):
                    self.assertIsInstance(node.ctx, ast.Store, (name, node.lineno))
                if isinstance(node, ast.BinOp) and isinstance(node.op, ast.Pow):
                    self.assertIsInstance(node.right, ast.Constant, (name, node.lineno))
                    self.assertIn(node.right.value, range(65), (name, node.lineno))
                if isinstance(node, ast.FormattedValue):
                    self.assertIsNone(node.format_spec, (name, node.lineno))
                    texts = [each for each in ast.walk(node) if isinstance(each, (ast.Constant, ast.JoinedStr))]
                    self.assertFalse([each for each in texts if not isinstance(getattr(each, "value", ""), int)], name)

    def test_keywords_are_those_of_pythons_own(self):
        for name, tree in trees():
            for node in ast.walk(tree):
                if isinstance(node, ast.Call):
                    keywords = [each.arg for each in node.keywords]
                    self.assertEqual([each for each in keywords if each not in KEYWORDS.get(called(node), [])], [],
                                     (name, node.lineno))

    def test_names_are_drawn_from_the_files_that_define_them(self):
        for name, tree in trees():
            for node in ast.walk(tree):
                if isinstance(node, ast.ImportFrom):
                    file = dict(trees())[node.module.split(".")[1] + ".py"]
                    held = {each.name for each in file.body if isinstance(each, (ast.FunctionDef, ast.ClassDef))}
                    held |= {target.id for each in file.body if isinstance(each, ast.Assign) for target in each.targets}
                    self.assertTrue(all(each.name in held and each.asname is None for each in node.names),
                                    (name, node.module))

    def test_what_a_loop_walks_is_not_changed_in_it(self):
        changes = ["append", "clear", "extend", "insert", "pop", "remove", "reverse", "setdefault", "update"]
        for name, tree in trees():
            for loop in ast.walk(tree):
                if isinstance(loop, ast.For):
                    walked = {each.id for each in ast.walk(loop.iter) if isinstance(each, ast.Name)} - set(WALKERS) - {"range", "len"}
                    for node in [each for row in loop.body for each in ast.walk(row)]:
                        if isinstance(node,
                                      ast.Call) and isinstance(node.func, ast.Attribute) and node.func.attr in changes:
                            self.assertNotIn(getattr(node.func.value, "id", ""), walked, (name, node.lineno))
                        if isinstance(node, ast.Subscript) and isinstance(node.ctx, (ast.Store, ast.Del)):
                            self.assertNotIn(getattr(node.value, "id", ""), walked, (name, node.lineno))

    def test_every_name_that_is_drawn_is_used(self):
        for name, tree in trees():
            drawn = {each.name for node in ast.walk(tree) if isinstance(node, ast.ImportFrom) for each in node.names}
            read = {node.id for node in ast.walk(tree) if isinstance(node, ast.Name)}
            self.assertEqual(sorted(drawn - read), [], name)

    def test_no_two_files_draw_from_one_another(self):
        drawn = {name[:-3]: {node.module.split(".")[1] for node in ast.walk(tree) if isinstance(node, ast.ImportFrom)}
                 for name, tree in trees()}
        while drawn:
            free = [name for name in drawn if not drawn[name] & set(drawn)]
            self.assertNotEqual(free, [], drawn)
            drawn = {name: drawn[name] for name in drawn if name not in free}


if __name__ == "__main__":
    unittest.main()
