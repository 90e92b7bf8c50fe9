"""The package keeps to the part of Python that ../shared/LANGUAGE.md tells, as far as a test can see it."""

import ast
import builtins
import pathlib
import re
import unittest

PACKAGE = pathlib.Path(__file__).resolve().parent.parent / "layeredpage"

OWN_NAMES = set("""len range enumerate zip min max sum abs sorted reversed int str bool list tuple dict set frozenset
    isinstance ord repr any all divmod Exception ValueError TypeError KeyError IndexError LookupError
    ZeroDivisionError ArithmeticError OverflowError RuntimeError NotImplementedError AttributeError
    StopIteration""".split())
METHODS = set("""append clear copy count endswith extend find get index insert isalnum isalpha isdigit islower isspace
    isupper items join keys ljust lower lstrip partition pop remove replace reverse rfind rjust rpartition rsplit
    rstrip setdefault split splitlines startswith strip update upper values zfill bit_length""".split())
UNUSED_NAMES = set("""register mro elements open input version_info with_traceback add_note attrgetter breakpoint
    builtins compile copyright credits delattr dir eval exec exit gc getattr globals hasattr help id importlib license
    locals methodcaller os quit setattr super type vars sys format format_map""".split())
WORDS = re.compile(r"\b(type|typing|typing_extensions|enum|Enum|IntEnum|StrEnum|Flag|IntFlag|Generic|Protocol|ABC"
                   r"|ABCMeta|namedtuple|NamedTuple|TypedDict|TYPE_CHECKING|abstractmethod)\b"
                   r"|dataclass|overload|contextmanager")
VALUES_OF_PYTHON = set().union(*[dir(kind) for kind in (str, int, list, dict, set, tuple, bytes)])
NODES = (
    ast.Module, ast.ImportFrom, ast.alias, ast.FunctionDef, ast.ClassDef, ast.arguments, ast.arg,
    ast.Assign, ast.AugAssign, ast.If, ast.While, ast.For, ast.Return, ast.Break, ast.Continue, ast.Pass, ast.Raise,
    ast.Expr, ast.Call, ast.keyword, ast.Name, ast.Attribute, ast.Subscript, ast.Slice, ast.Constant, ast.List,
    ast.Tuple, ast.Dict, ast.ListComp, ast.comprehension, ast.IfExp, ast.Compare, ast.BoolOp, ast.UnaryOp, ast.BinOp,
    ast.expr_context, ast.boolop, ast.unaryop, ast.cmpop, ast.operator,
)


def sources():
    return sorted(PACKAGE.rglob("*.py"))


def plain_constant(node):
    return isinstance(node.value, (int, str, bool)) or node.value is None


def bound_names(tree):
    for node in ast.walk(tree):
        if isinstance(node, (ast.FunctionDef, ast.ClassDef)):
            yield node.name
        elif isinstance(node, ast.arg):
            yield node.arg
        elif isinstance(node, ast.Name) and isinstance(node.ctx, ast.Store):
            yield node.id
        elif isinstance(node, ast.Attribute) and isinstance(node.ctx, ast.Store):
            yield node.attr


class TheFiles(unittest.TestCase):
    def test_there_are_some(self):
        self.assertIn(PACKAGE / "documents.py", sources())

    def test_nothing_else_lies_in_the_package(self):
        for path in PACKAGE.rglob("*"):
            if "__pycache__" not in path.parts:
                self.assertTrue(path.is_file() and re.fullmatch(r"[a-z0-9_]+\.py", path.name), path)

    def test_signs_and_sizes(self):
        for path in sources():
            text = path.read_text(encoding="utf-8")
            self.assertIsNone(re.search(r"[^ -~\n]", text), path)
            self.assertLessEqual(len(text.splitlines()), 400, path)
            self.assertLessEqual(max(len(line) for line in text.splitlines()), 120, path)

    def test_words_that_stand_nowhere(self):
        for path in sources():
            self.assertIsNone(WORDS.search(path.read_text(encoding="utf-8")), path)


class TheCode(unittest.TestCase):
    def walk(self, *kinds):
        for path in sources():
            for node in ast.walk(ast.parse(path.read_text(encoding="utf-8"))):
                if isinstance(node, kinds):
                    yield f"{path.name}:{getattr(node, 'lineno', 0)}", node

    def test_only_these_forms(self):
        for where, node in self.walk(ast.AST):
            self.assertIsInstance(node, NODES, where)
        for where, node in self.walk(ast.Div, ast.MatMult):
            self.fail(where)
        for where, node in self.walk(ast.Constant):
            self.assertTrue(plain_constant(node), where)

    def test_a_text_stands_alone_only_at_the_top(self):
        for path in sources():
            tree = ast.parse(path.read_text(encoding="utf-8"))
            for node in ast.walk(tree):
                if isinstance(node, ast.Expr) and node is not tree.body[0]:
                    self.assertIsInstance(node.value, ast.Call, f"{path.name}:{node.lineno}")

    def test_the_top_of_a_module(self):
        for path in sources():
            names = []
            for node in ast.parse(path.read_text(encoding="utf-8")).body[1:]:
                self.assertIsInstance(node, (ast.ImportFrom, ast.FunctionDef, ast.ClassDef, ast.Assign))
                if isinstance(node, ast.Assign):
                    ast.literal_eval(node.value)
                    names.append(node.targets[0].id)
                elif not isinstance(node, ast.ImportFrom):
                    names.append(node.name)
            self.assertEqual(len(names), len(set(names)), path)

    def test_imports(self):
        for where, node in self.walk(ast.ImportFrom):
            self.assertEqual(node.level, 0, where)
            self.assertTrue(node.module.startswith("layeredpage."), where)
            home = PACKAGE / (node.module.split(".", 1)[1] + ".py")
            tops = [getattr(top, "name", None) for top in ast.parse(home.read_text(encoding="utf-8")).body]
            for one in node.names:
                self.assertIsNone(one.asname, where)
                self.assertIn(one.name, tops, where)

    def test_no_two_files_draw_from_one_another(self):
        draws = {path.stem: set() for path in sources()}
        for where, node in self.walk(ast.ImportFrom):
            draws[where.split(".")[0]].add(node.module.split(".", 1)[1])
        while draws:
            free = [stem for stem, others in draws.items() if not others & set(draws)]
            self.assertTrue(free, draws)
            for stem in free:
                draws.pop(stem)

    def test_functions(self):
        for where, node in self.walk(ast.FunctionDef):
            self.assertLessEqual(node.end_lineno - node.lineno + 1, 40, where)
            self.assertEqual((node.decorator_list, node.args.kwonlyargs, node.args.posonlyargs), ([], [], []), where)
            self.assertEqual((node.args.vararg, node.args.kwarg, node.returns), (None, None, None), where)

    def test_classes(self):
        for where, node in self.walk(ast.ClassDef):
            self.assertEqual((node.decorator_list, node.keywords), ([], []), where)
            self.assertLessEqual(len(node.bases), 1, where)
            for part in node.body:
                self.assertIsInstance(part, ast.FunctionDef, where)

    def test_assignments_have_one_target(self):
        for where, node in self.walk(ast.Assign):
            self.assertEqual(len(node.targets), 1, where)
            self.assertIsInstance(node.targets[0], (ast.Name, ast.Attribute, ast.Subscript), where)

    def test_loops_have_no_else_and_comprehensions_one_for(self):
        for where, node in self.walk(ast.For, ast.While):
            self.assertEqual(node.orelse, [], where)
        for where, node in self.walk(ast.ListComp):
            self.assertEqual(len(node.generators), 1, where)
            self.assertLessEqual(len(node.generators[0].ifs), 1, where)

    def test_is_stands_beside_none_true_and_false(self):
        for where, node in self.walk(ast.Compare):
            for sign, right in zip(node.ops, node.comparators):
                if isinstance(sign, (ast.Is, ast.IsNot)):
                    self.assertIn(getattr(right, "value", 0), (None, True, False), where)

    def test_names_of_pythons_own(self):
        for where, node in self.walk(ast.Name):
            self.assertNotIn(node.id, UNUSED_NAMES, where)
            if hasattr(builtins, node.id):
                self.assertIn(node.id, OWN_NAMES, where)
                self.assertIsInstance(node.ctx, ast.Load, where)

    def test_names_are_plain(self):
        for path in sources():
            for name in bound_names(ast.parse(path.read_text(encoding="utf-8"))):
                if name != "__init__":
                    self.assertRegex(name, r"^[A-Za-z][A-Za-z0-9_]*$", path)
                    self.assertNotIn(name, UNUSED_NAMES, path)
                    self.assertFalse(hasattr(builtins, name), (path, name))

    def test_no_local_is_called_like_what_stands_at_the_top(self):
        for path in sources():
            tree = ast.parse(path.read_text(encoding="utf-8"))
            tops = {node.name for node in tree.body if hasattr(node, "name")}
            for node in tree.body:
                if isinstance(node, ast.ImportFrom):
                    tops.update(one.name for one in node.names)
            for node in ast.walk(tree):
                if isinstance(node, ast.arg):
                    self.assertNotIn(node.arg, tops, path)
                elif isinstance(node, ast.Name) and isinstance(node.ctx, ast.Store):
                    self.assertNotIn(node.id, tops, path)

    def test_methods_and_values(self):
        methods = {node.name for _, group in self.walk(ast.ClassDef) for node in group.body}
        values = {node.attr for _, node in self.walk(ast.Attribute) if isinstance(node.ctx, ast.Store)}
        self.assertEqual(methods & values, set())
        self.assertEqual((methods - {"__init__"} | values) & VALUES_OF_PYTHON, set())
        called = set()
        for where, node in self.walk(ast.Call):
            if isinstance(node.func, ast.Attribute):
                self.assertIn(node.func.attr, METHODS | methods, where)
                called.add(node.func)
        read = {node.attr for _, node in self.walk(ast.Attribute)}
        self.assertEqual(read - METHODS - methods - values, set())


if __name__ == "__main__":
    unittest.main()
