"""The package's own files keep to the part of Python that the program is written in, as far as seen here."""

import ast
import builtins
import pathlib
import re
import unittest

PACKAGE = pathlib.Path(__file__).resolve().parent.parent / "keyhousedesk"

NODES = """
Module Expr Constant Assign AugAssign If While For Return Break Continue Pass Raise Try ExceptHandler
FunctionDef ClassDef arguments arg ImportFrom alias Name Load Store Attribute Subscript Slice Call keyword
List Tuple Dict ListComp comprehension BinOp UnaryOp BoolOp Compare IfExp JoinedStr FormattedValue Lambda
Add Sub Mult FloorDiv Mod Pow BitAnd BitOr BitXor LShift RShift Invert Not USub And Or
Eq NotEq Lt LtE Gt GtE Is IsNot In NotIn
""".split()
OWN_NAMES = """
len range enumerate zip min max sum abs sorted reversed int str bool list tuple dict set frozenset isinstance ord
repr any all divmod Exception ValueError TypeError KeyError IndexError LookupError ZeroDivisionError
ArithmeticError OverflowError RuntimeError NotImplementedError AttributeError StopIteration
""".split()
METHODS = """
append clear copy count endswith extend find get index insert isalnum isalpha isdigit islower isspace isupper items
join keys ljust lower lstrip partition pop remove replace reverse rfind rjust rpartition rsplit rstrip setdefault
split splitlines startswith strip update upper values zfill bit_length
""".split()
NEVER = """
register mro elements open input version_info with_traceback add_note attrgetter breakpoint builtins compile copyright
credits delattr dir eval exec exit gc getattr globals hasattr help id importlib license locals methodcaller os quit
setattr super type vars sys
""".split()
NO_WORDS = """
type typing typing_extensions enum Enum IntEnum StrEnum Flag IntFlag Generic Protocol ABC ABCMeta namedtuple NamedTuple
TypedDict TYPE_CHECKING abstractmethod
""".split()
DUNDER_METHODS = ("__init__", "__eq__", "__repr__", "__str__", "__len__")
TAKEN = {name for kind in (str, int, list, dict, set, bytes) for name in dir(kind)}


def files():
    return sorted(PACKAGE.rglob("*.py"))


TREES = [(path.name, ast.parse(path.read_text())) for path in files()]


def nodes(*kinds):
    return [(name, node) for name, tree in TREES for node in ast.walk(tree) if isinstance(node, kinds)]


class Files(unittest.TestCase):
    def test_only_py_files_with_plain_names(self):
        for path in PACKAGE.rglob("*"):
            if "__pycache__" not in path.parts:
                self.assertRegex(path.name, r"^(__init__|[a-z][a-z0-9_]*)\.py$")
                self.assertTrue(path.stem == "__init__" or not hasattr(builtins, path.stem), path.name)

    def test_signs_and_sizes(self):
        for path in files():
            text = path.read_bytes().decode("ascii")
            self.assertRegex(text, r"\A[ -~\n]*\Z", path.name)
            rows = text.split("\n")
            self.assertLessEqual(len(rows), 400, path.name)
            self.assertLessEqual(max(len(row) for row in rows), 120, path.name)
        for name, node in nodes(ast.FunctionDef):
            self.assertLessEqual(node.end_lineno - node.lineno + 1, 40, (name, node.name))

    def test_words_that_stand_nowhere(self):
        for path in files():
            words = re.findall(r"\w+", path.read_text())
            self.assertEqual([word for word in words if word in NO_WORDS], [], path.name)
            self.assertNotRegex(path.read_text(), "dataclass|overload|contextmanager")


class Forms(unittest.TestCase):
    def test_only_the_forms_of_the_language(self):
        for name, node in nodes(ast.AST):
            self.assertIn(type(node).__name__, NODES, (name, getattr(node, "lineno", None)))

    def test_one_target_and_no_else_behind_a_loop(self):
        for name, node in nodes(ast.Assign):
            self.assertEqual(len(node.targets), 1, (name, node.lineno))
            self.assertNotIsInstance(node.targets[0], (ast.Tuple, ast.List), (name, node.lineno))
        for name, node in nodes(ast.For, ast.While):
            self.assertEqual(node.orelse, [], (name, node.lineno))

    def test_plain_functions_and_classes(self):
        for name, node in nodes(ast.FunctionDef, ast.Lambda):
            spread = [node.args.vararg, node.args.kwarg] + node.args.kwonlyargs + node.args.posonlyargs
            self.assertEqual(spread, [None, None], (name, node.lineno))
        for name, node in nodes(ast.FunctionDef, ast.ClassDef):
            self.assertEqual(node.decorator_list, [], (name, node.name))
        for name, node in nodes(ast.ClassDef):
            for part in node.body:
                self.assertTrue(isinstance(part, ast.FunctionDef) or isinstance(part, ast.Expr), (name, node.name))

    def test_whole_numbers_texts_and_their_like(self):
        for name, node in nodes(ast.Constant):
            self.assertIn(type(node.value), (int, str, bool, type(None)), (name, node.lineno))
        for name, node in nodes(ast.BinOp):
            if isinstance(node.op, ast.Pow):
                self.assertIsInstance(node.right, ast.Constant, (name, node.lineno))

    def test_is_beside_none_true_and_false_alone(self):
        for name, node in nodes(ast.Compare):
            if isinstance(node.ops[0], (ast.Is, ast.IsNot)):
                self.assertIn(getattr(node.comparators[0], "value", 0), (None, True, False), (name, node.lineno))

    def test_comprehensions_have_one_for_and_at_most_one_if(self):
        for name, node in nodes(ast.ListComp):
            self.assertEqual(len(node.generators), 1, (name, node.lineno))
            self.assertLessEqual(len(node.generators[0].ifs), 1, (name, node.lineno))


WALKED = ("zip", "enumerate", "reversed", "range", "items", "keys", "values")
WALKERS = ("list", "tuple", "dict", "sorted", "sum", "any", "all", "enumerate", "zip", "min", "max", "join")
KEYWORDS = {
    "sorted": ("key", "reverse"), "min": ("key", "default"), "max": ("key", "default"), "sum": ("start",),
    "enumerate": ("start",), "zip": ("strict",),
}
CHANGES = ("append", "clear", "extend", "insert", "pop", "remove", "reverse", "setdefault", "update")


def called_name(node):
    if not isinstance(node, ast.Call):
        return None
    return node.func.id if isinstance(node.func, ast.Name) else getattr(node.func, "attr", None)


def with_parents():
    """Each node with the one that it stands in."""
    return [(name, child, node) for name, node in nodes(ast.AST) for child in ast.iter_child_nodes(node)]


class Uses(unittest.TestCase):
    def test_walked_at_once(self):
        for name, node, parent in with_parents():
            if called_name(node) in WALKED:
                walked = isinstance(parent, (ast.For, ast.comprehension)) and parent.iter is node
                first = called_name(parent) in WALKERS and parent.args and parent.args[0] is node
                self.assertTrue(walked or first or called_name(parent) == "zip", (name, node.lineno))

    def test_what_a_loop_walks_is_not_changed_in_it(self):
        for name, loop in nodes(ast.For):
            walked = {node.id for node in ast.walk(loop.iter) if isinstance(node, ast.Name)}
            for node in [inner for row in loop.body for inner in ast.walk(row)]:
                if called_name(node) in CHANGES and isinstance(node.func.value, ast.Name):
                    self.assertNotIn(node.func.value.id, walked, (name, node.lineno))
                if isinstance(node, ast.Subscript) and isinstance(node.ctx, ast.Store):
                    self.assertNotIn(getattr(node.value, "id", None), walked, (name, node.lineno))

    def test_a_set_is_not_kept(self):
        for name, node, parent in with_parents():
            if called_name(node) in ("set", "frozenset"):
                beside = isinstance(parent, (ast.Compare, ast.BinOp))
                self.assertTrue(beside or called_name(parent) in ("sorted", "len"), (name, node.lineno))

    def test_keywords(self):
        for name, node in nodes(ast.Call):
            if called_name(node) in OWN_NAMES + METHODS:
                given = {keyword.arg for keyword in node.keywords}
                self.assertLessEqual(given, set(KEYWORDS.get(called_name(node), ())), (name, node.lineno))

    def test_pythons_own_are_called_and_not_kept(self):
        called = [node.func for name, node in nodes(ast.Call)]
        kept = [keyword.value for name, keyword in nodes(ast.keyword)]
        for name, node in nodes(ast.Name):
            if node.id in OWN_NAMES and node not in called + kept:
                self.assertTrue(node.id[0].isupper() or node.id in ("int", "str", "bool", "list", "tuple", "dict"),
                                (name, node.lineno))

    def test_no_annotations(self):
        for name, node in nodes(ast.FunctionDef):
            self.assertIsNone(node.returns, (name, node.name))
        for name, node in nodes(ast.arg):
            self.assertIsNone(node.annotation, (name, node.lineno))

    def test_tables_at_a_files_top_are_tuples_of_plain_values(self):
        for name, tree in TREES:
            for node in tree.body:
                if isinstance(node, ast.Assign):
                    kinds = {type(inner) for inner in ast.walk(node.value)}
                    plain = {ast.Constant, ast.Tuple, ast.Load, ast.UnaryOp, ast.USub}
                    self.assertLessEqual(kinds, plain, (name, node.lineno))


class Names(unittest.TestCase):
    def bound(self, tree):
        """Names that are bound at the top of a file or in a def: parameters and locals too."""
        found = [node.id for node in ast.walk(tree) if isinstance(node, ast.Name) and isinstance(node.ctx, ast.Store)]
        found += [node.arg for node in ast.walk(tree) if isinstance(node, ast.arg)]
        return found + [node.name for node in tree.body if isinstance(node, (ast.FunctionDef, ast.ClassDef))]

    def imported(self, tree):
        return [one.name for node in tree.body if isinstance(node, ast.ImportFrom) for one in node.names]

    def test_bound_names(self):
        for name, tree in TREES:
            for one in self.bound(tree):
                self.assertRegex(one, r"^[A-Za-z][A-Za-z0-9_]*$", name)
                self.assertFalse(hasattr(builtins, one), (name, one))
                self.assertNotIn(one, NEVER, name)
                self.assertNotIn(one, self.imported(tree), name)

    def test_read_names_are_bound_or_among_pythons_own_that_are_allowed(self):
        for name, tree in TREES:
            known = self.bound(tree) + self.imported(tree) + OWN_NAMES
            for node in ast.walk(tree):
                if isinstance(node, ast.Name) and isinstance(node.ctx, ast.Load):
                    self.assertIn(node.id, known, (name, node.lineno))

    def test_each_name_once_at_a_files_top(self):
        for name, tree in TREES:
            top = self.imported(tree)
            for node in tree.body:
                if isinstance(node, ast.Assign):
                    top.append(node.targets[0].id)
                elif isinstance(node, (ast.FunctionDef, ast.ClassDef)):
                    top.append(node.name)
            self.assertEqual(len(top), len(set(top)), name)

    def test_methods_and_values(self):
        methods = {part.name for name, node in nodes(ast.ClassDef) for part in node.body
                   if isinstance(part, ast.FunctionDef)}
        for method in methods:
            self.assertTrue(method in DUNDER_METHODS or method not in TAKEN, method)
        called = [node.func for name, node in nodes(ast.Call)]
        for name, node in nodes(ast.Attribute):
            self.assertNotIn(node.attr, NEVER, (name, node.lineno))
            if node in called:
                self.assertIn(node.attr, METHODS + sorted(methods), (name, node.lineno))
            else:
                self.assertNotIn(node.attr, TAKEN | methods, (name, node.lineno))


class Imports(unittest.TestCase):
    def drawn(self):
        found = {}
        for path in files():
            tree = ast.parse(path.read_text())
            rows = [node for node in ast.walk(tree) if isinstance(node, ast.ImportFrom)]
            self.assertEqual([row for row in rows if row not in tree.body], [], path.name)
            found[path.stem] = rows
        return found

    def test_from_the_very_file_that_defines_the_name(self):
        for stem, rows in self.drawn().items():
            for row in rows:
                self.assertEqual(row.level, 0, stem)
                self.assertRegex(row.module, r"^keyhousedesk\.[a-z_]+$", stem)
                tree = ast.parse((PACKAGE / (row.module.split(".")[1] + ".py")).read_text())
                top = [node.name for node in tree.body if isinstance(node, (ast.FunctionDef, ast.ClassDef))]
                top += [node.targets[0].id for node in tree.body if isinstance(node, ast.Assign)]
                for one in row.names:
                    self.assertIn(one.name, top, stem)
                    self.assertIsNone(one.asname, stem)

    def test_no_two_files_draw_from_one_another(self):
        drawn = {stem: {row.module.split(".")[1] for row in rows} for stem, rows in self.drawn().items()}
        self.assertEqual(drawn["__init__"], set())
        left = dict(drawn)
        while left:
            done = [stem for stem in left if not drawn[stem] & set(left)]
            self.assertNotEqual(done, [], sorted(left))
            for stem in done:
                left.pop(stem)


if __name__ == "__main__":
    unittest.main()
