"""The package keeps to the part of Python that it may use, as far as its syntax shows it."""

import ast
import builtins
import pathlib
import re
import unittest

PACKAGE = pathlib.Path(__file__).resolve().parent.parent / "arrayreach"

PLAIN_NODES = (
    ast.Module, ast.ImportFrom, ast.alias, ast.FunctionDef, ast.arguments, ast.arg, ast.ClassDef, ast.Lambda,
    ast.Assign, ast.AugAssign, ast.If, ast.While, ast.For, ast.Return, ast.Break, ast.Continue, ast.Pass, ast.Raise,
    ast.Try, ast.ExceptHandler, ast.Expr, ast.Constant, ast.List, ast.Tuple, ast.Dict, ast.Set, ast.BinOp, ast.UnaryOp,
    ast.BoolOp, ast.Compare, ast.IfExp, ast.Call, ast.keyword, ast.Attribute, ast.Subscript, ast.Slice, ast.ListComp,
    ast.comprehension, ast.JoinedStr, ast.FormattedValue, ast.Name, ast.expr_context, ast.operator, ast.unaryop,
    ast.boolop, ast.cmpop,
)

OWN_NAMES = """len range enumerate zip min max sum abs sorted reversed int str bool list tuple dict set frozenset
isinstance ord repr any all divmod Exception ValueError TypeError KeyError IndexError LookupError ZeroDivisionError
ArithmeticError OverflowError RuntimeError NotImplementedError AttributeError StopIteration""".split()

OWN_METHODS = """append clear copy count endswith extend find get index insert isalnum isalpha isdigit islower isspace
isupper items join keys ljust lower lstrip partition pop remove replace reverse rfind rjust rpartition rsplit rstrip
setdefault split splitlines startswith strip update upper values zfill bit_length""".split()

WORDS_NOT_USED = """type typing typing_extensions enum Enum IntEnum StrEnum Flag IntFlag Generic Protocol ABC ABCMeta
namedtuple NamedTuple TypedDict TYPE_CHECKING abstractmethod""".split()


def files():
    return sorted(path for path in PACKAGE.rglob("*") if path.is_file() and "__pycache__" not in path.parts)


def nodes(kinds):
    """Each node of these kinds, with its file."""
    return [(path.name, node) for path in files() for node in ast.walk(ast.parse(path.read_text("utf-8")))
            if isinstance(node, kinds)]


def calls_of(names):
    """Each call of a function of Python's own that is one of these, with its file."""
    return [(name, node) for name, node in nodes(ast.Call)
            if isinstance(node.func, ast.Name) and node.func.id in names]


def place(name, node):
    return name, node.lineno, node.col_offset


class Files(unittest.TestCase):
    def test_names(self):
        self.assertIn("__init__.py", [path.name for path in files()])
        self.assertIn("reach.py", [path.name for path in files()])
        for path in files():
            self.assertRegex(path.name, r"\A([a-z][a-z0-9_]*|__init__|__main__)\.py\Z")

    def test_signs_and_sizes(self):
        for path in files():
            text = path.read_bytes()
            self.assertFalse(set(text) - set(range(32, 127)) - {10}, path)
            self.assertLessEqual(len(text.splitlines()), 400, path)
            self.assertLessEqual(max(len(row) for row in text.splitlines()), 120, path)

    def test_functions_are_small(self):
        for name, node in nodes(ast.FunctionDef):
            self.assertLessEqual(node.end_lineno - node.lineno + 1, 40, (name, node.name))

    def test_words_not_used(self):
        for path in files():
            text = path.read_text("utf-8")
            self.assertFalse(set(re.findall(r"\w+", text)) & set(WORDS_NOT_USED), path)
            self.assertIsNone(re.search("dataclass|overload|contextmanager", text), path)


class TopOfAFile(unittest.TestCase):
    def test_what_stands_there(self):
        for path in files():
            bound = []
            for node in ast.parse(path.read_text("utf-8")).body:
                if isinstance(node, (ast.FunctionDef, ast.ClassDef)):
                    bound.append(node.name)
                elif isinstance(node, ast.ImportFrom):
                    bound += [alias.name for alias in node.names]
                elif isinstance(node, ast.Assign):
                    bound.append(node.targets[0].id)
                    ast.literal_eval(node.value)
                else:
                    self.assertIsInstance(node, ast.Expr, (path.name, node.lineno))
                    self.assertIsInstance(node.value.value, str, (path.name, node.lineno))
            self.assertEqual(sorted(bound), sorted(set(bound)), path)

    def test_imports_are_from_the_file_that_defines_the_name(self):
        for name, node in nodes(ast.ImportFrom):
            source = PACKAGE / (node.module.removeprefix("arrayreach.") + ".py")
            defined = [each.name for each in ast.parse(source.read_text("utf-8")).body
                       if isinstance(each, (ast.FunctionDef, ast.ClassDef))]
            for alias in node.names:
                self.assertIn(alias.name, defined, (name, node.module))
                self.assertIsNone(alias.asname)

    def test_no_two_files_draw_from_one_another(self):
        drawn = {path.name: set() for path in files()}
        for name, node in nodes(ast.ImportFrom):
            drawn[name].add(node.module.removeprefix("arrayreach.") + ".py")
        while drawn:
            free = [name for name in drawn if not drawn[name] & set(drawn)]
            self.assertTrue(free, drawn)
            drawn = {name: drawn[name] for name in drawn if name not in free}

    def test_no_local_is_called_like_an_import_or_a_class(self):
        for path in files():
            tree = ast.parse(path.read_text("utf-8"))
            taken = {alias.name for node in tree.body if isinstance(node, ast.ImportFrom) for alias in node.names}
            taken |= {node.name for node in tree.body if isinstance(node, ast.ClassDef)}
            for node in ast.walk(tree):
                if isinstance(node, ast.arg):
                    self.assertNotIn(node.arg, taken, (path.name, node.lineno))
                if isinstance(node, ast.Name) and isinstance(node.ctx, ast.Store):
                    self.assertNotIn(node.id, taken, (path.name, node.lineno))


class Syntax(unittest.TestCase):
    def test_plain_nodes_alone(self):
        for name, node in nodes(ast.AST):
            self.assertIsInstance(node, PLAIN_NODES, (name, ast.dump(node)))

    def test_imports_are_of_the_package(self):
        for name, node in nodes(ast.ImportFrom):
            self.assertEqual(node.level, 0, name)
            self.assertTrue(node.module.startswith("arrayreach."), (name, node.module))

    def test_one_target_and_no_decorator(self):
        for name, node in nodes(ast.Assign):
            self.assertEqual(len(node.targets), 1, (name, node.lineno))
        for name, node in nodes((ast.FunctionDef, ast.ClassDef)):
            self.assertEqual(node.decorator_list, [], (name, node.lineno))

    def test_no_else_behind_a_loop_and_no_division(self):
        for name, node in nodes((ast.While, ast.For)):
            self.assertEqual(node.orelse, [], (name, node.lineno))
        self.assertEqual(nodes((ast.Div, ast.MatMult)), [])

    def test_is_stands_beside_none_true_and_false_alone(self):
        for name, node in nodes(ast.Compare):
            if any(isinstance(sign, (ast.Is, ast.IsNot)) for sign in node.ops):
                self.assertIsInstance(node.comparators[0], ast.Constant, (name, node.lineno))
                self.assertIn(node.comparators[0].value, (None, True, False), (name, node.lineno))

    def test_comprehensions_have_one_for_and_at_most_one_if(self):
        for name, node in nodes(ast.ListComp):
            self.assertEqual(len(node.generators), 1, (name, node.lineno))
            self.assertLessEqual(len(node.generators[0].ifs), 1, (name, node.lineno))

    def test_what_is_walked_on_the_spot(self):
        walked = ("zip", "enumerate", "reversed", "range")
        may_stand = ("list", "tuple", "dict", "sorted", "sum", "any", "all", "enumerate", "zip")
        allowed = [place(name, node.iter) for name, node in nodes((ast.For, ast.comprehension))]
        allowed += [place(name, node.args[0]) for name, node in calls_of(may_stand)]
        for name, node in calls_of(walked):
            self.assertIn(place(name, node), allowed)

    def test_sets_are_made_within_sorted_or_len(self):
        within = [place(name, node.args[0]) for name, node in calls_of(("sorted", "len"))]
        for name, node in calls_of(("set", "frozenset")):
            self.assertIn(place(name, node), within)
        self.assertEqual(nodes(ast.Set), [])

    def test_constants_are_whole_numbers_and_texts(self):
        for name, node in nodes(ast.Constant):
            self.assertIn(type(node.value), (int, str, bool, type(None)), (name, node.lineno))

    def test_names(self):
        others = set(dir(builtins)) - set(OWN_NAMES)
        for name, node in nodes(ast.Name):
            self.assertRegex(node.id, r"\A[A-Za-z]\w*\Z", name)
            self.assertNotIn(node.id, others, (name, node.lineno))
            if isinstance(node.ctx, ast.Store):
                self.assertNotIn(node.id, OWN_NAMES, (name, node.lineno))
        for name, node in nodes(ast.arg):
            self.assertNotIn(node.arg, dir(builtins), (name, node.lineno))
            self.assertIsNone(node.annotation, (name, node.lineno))

    def test_methods(self):
        own = [node.name for name, node in nodes(ast.FunctionDef)]
        for name, node in nodes(ast.Call):
            if isinstance(node.func, ast.Attribute):
                self.assertIn(node.func.attr, OWN_METHODS + own, (name, node.lineno))


if __name__ == "__main__":
    unittest.main()
