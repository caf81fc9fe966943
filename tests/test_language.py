"""The package keeps to the part of Python that it's to be written in: what of the rules a walk can see."""

import ast
import pathlib
import re
import unittest

PACKAGE = pathlib.Path(__file__).resolve().parent.parent / "treebridge"

BUILT_IN = set("""len range enumerate zip min max sum abs sorted reversed int str bool list tuple dict set frozenset
    isinstance ord repr any all divmod Exception ValueError TypeError KeyError IndexError LookupError
    ZeroDivisionError ArithmeticError OverflowError RuntimeError NotImplementedError AttributeError
    StopIteration""".split())

METHODS = set("""append clear copy count endswith extend find get index insert isalnum isalpha isdigit islower
    isspace isupper items join keys ljust lower lstrip partition pop remove replace reverse rfind rjust
    rpartition rsplit rstrip setdefault split splitlines startswith strip update upper values zfill
    bit_length""".split())

PYTHONS_OWN = set().union(*[set(dir(kind)) for kind in (str, int, list, tuple, dict, set, frozenset, bytes)])

STATEMENTS = (ast.Assign, ast.AugAssign, ast.If, ast.While, ast.For, ast.Return, ast.Break, ast.Continue, ast.Pass,
              ast.Raise, ast.Try, ast.Expr, ast.FunctionDef, ast.ClassDef, ast.ImportFrom)

EXPRESSIONS = (ast.Constant, ast.Name, ast.Attribute, ast.Subscript, ast.Slice, ast.Call, ast.BinOp, ast.UnaryOp,
               ast.BoolOp, ast.Compare, ast.IfExp, ast.List, ast.Tuple, ast.Dict, ast.ListComp, ast.Lambda,
               ast.JoinedStr, ast.FormattedValue)

WORDS = """type typing typing_extensions enum Enum IntEnum StrEnum Flag IntFlag Generic Protocol ABC ABCMeta
    namedtuple NamedTuple TypedDict TYPE_CHECKING abstractmethod register mro elements open input version_info
    with_traceback add_note""".split()

WALKED = {"zip", "enumerate", "reversed", "range"}
WALKERS = {"list", "tuple", "dict", "sorted", "sum", "any", "all", "enumerate", "zip", "min", "max"}


def sources():
    return sorted(PACKAGE.glob("*.py"))


def trees():
    return [(path.name, ast.parse(path.read_text(encoding="utf-8"))) for path in sources()]


def nodes():
    return [(name, node) for name, tree in trees() for node in ast.walk(tree)]


class Files(unittest.TestCase):
    def test_names(self):
        for path in PACKAGE.iterdir():
            if path.name != "__pycache__":
                self.assertRegex(path.name, r"^(__init__|[a-z][a-z0-9_]*)\.py$")

    def test_there_is_an_init(self):
        self.assertIn("__init__.py", [path.name for path in sources()])

    def test_signs_and_sizes(self):
        for path in sources():
            text = path.read_bytes().decode("utf-8")
            self.assertRegex(text, r"\A[ -~\n]*\Z", path.name)
            rows = text.split("\n")
            self.assertLessEqual(len(rows), 400, path.name)
            self.assertLessEqual(max(len(one) for one in rows), 120, path.name)

    def test_words_that_stand_nowhere(self):
        for path in sources():
            found = re.findall(r"\w+", path.read_text(encoding="utf-8"))
            self.assertEqual([word for word in WORDS if word in found], [], path.name)


class Form(unittest.TestCase):
    def test_statements_and_expressions(self):
        for name, node in nodes():
            if isinstance(node, ast.stmt):
                self.assertIsInstance(node, STATEMENTS, (name, node.lineno))
            if isinstance(node, ast.expr):
                self.assertIsInstance(node, EXPRESSIONS, (name, node.lineno))

    def test_constants(self):
        for name, node in nodes():
            if isinstance(node, ast.Constant):
                self.assertIn(type(node.value), (int, str, bool, type(None)), (name, node.lineno))

    def test_operators(self):
        for name, node in nodes():
            self.assertNotIsInstance(node, (ast.Div, ast.MatMult, ast.Pow), name)

    def test_assignments_have_one_target(self):
        for name, node in nodes():
            if isinstance(node, ast.Assign):
                self.assertEqual(len(node.targets), 1, (name, node.lineno))
                self.assertNotIsInstance(node.targets[0], (ast.Tuple, ast.List), (name, node.lineno))

    def test_no_else_behind_a_loop(self):
        for name, node in nodes():
            if isinstance(node, (ast.For, ast.While)):
                self.assertEqual(node.orelse, [], (name, node.lineno))

    def test_is_stands_beside_none_true_false(self):
        for name, node in nodes():
            if isinstance(node, ast.Compare):
                for operator, right in zip(node.ops, node.comparators):
                    if isinstance(operator, (ast.Is, ast.IsNot)):
                        self.assertIn(getattr(right, "value", 0), (None, True, False), (name, node.lineno))

    def test_comprehensions(self):
        for name, node in nodes():
            if isinstance(node, ast.ListComp):
                self.assertEqual(len(node.generators), 1, (name, node.lineno))
                self.assertLessEqual(len(node.generators[0].ifs), 1, (name, node.lineno))

    def test_walked_at_once(self):
        for name, tree in trees():
            allowed = set()
            for node in ast.walk(tree):
                if isinstance(node, (ast.For, ast.comprehension)):
                    allowed.add(node.iter)
                if isinstance(node, ast.Call) and isinstance(node.func, ast.Name) and node.func.id in WALKERS:
                    allowed.update(node.args[:1])
            for node in ast.walk(tree):
                if isinstance(node, ast.Call) and isinstance(node.func, ast.Name) and node.func.id in WALKED:
                    self.assertIn(node, allowed, (name, node.lineno))
                if isinstance(node, ast.Call) and isinstance(node.func, ast.Attribute):
                    if node.func.attr in ("items", "keys", "values"):
                        self.assertIn(node, allowed, (name, node.lineno))


class Functions(unittest.TestCase):
    def test_sizes_and_parameters(self):
        for name, node in nodes():
            if isinstance(node, ast.FunctionDef):
                place = (name, node.name)
                self.assertLessEqual(node.end_lineno - node.lineno + 1, 40, place)
                self.assertEqual(node.decorator_list, [], place)
                self.assertIsNone(node.returns, place)
                arguments = node.args
                self.assertEqual((arguments.vararg, arguments.kwarg), (None, None), place)
                self.assertEqual((arguments.kwonlyargs, arguments.posonlyargs), ([], []), place)
                self.assertEqual([one.annotation for one in arguments.args if one.annotation], [], place)

    def test_classes(self):
        for name, tree in trees():
            for node in ast.walk(tree):
                if isinstance(node, ast.ClassDef):
                    self.assertIn(node, tree.body, (name, node.name))
                    self.assertLessEqual(len(node.bases), 1, (name, node.name))
                    self.assertEqual((node.decorator_list, node.keywords), ([], []), (name, node.name))
                    methods = [one.name for one in node.body if isinstance(one, ast.FunctionDef)]
                    self.assertEqual(len(methods), len(set(methods)), (name, node.name))
                    others = [one for one in node.body if not isinstance(one, (ast.FunctionDef, ast.Expr))]
                    self.assertEqual(others, [], (name, node.name))

    def test_no_name_is_a_method_and_a_value(self):
        methods, stored = set(), set()
        for name, node in nodes():
            if isinstance(node, ast.ClassDef):
                methods.update(one.name for one in node.body if isinstance(one, ast.FunctionDef))
            if isinstance(node, ast.Attribute) and isinstance(node.ctx, ast.Store):
                stored.add(node.attr)
        self.assertEqual(methods & stored, set())
        self.assertEqual((methods | stored) & PYTHONS_OWN, {"__init__"})


class Names(unittest.TestCase):
    def bound(self, tree):
        found = []
        for node in ast.walk(tree):
            if isinstance(node, ast.Name) and isinstance(node.ctx, ast.Store):
                found.append(node.id)
            if isinstance(node, ast.arg):
                found.append(node.arg)
            if isinstance(node, (ast.FunctionDef, ast.ClassDef)):
                found.append(node.name)
            if isinstance(node, ast.ImportFrom):
                found.extend(one.name for one in node.names)
        return found

    def test_plain_names(self):
        for name, tree in trees():
            for one in self.bound(tree):
                if one != "__init__":
                    self.assertRegex(one, r"^[A-Za-z][A-Za-z0-9_]*$", name)

    def test_pythons_own_names_keep_their_meaning(self):
        import builtins
        for name, tree in trees():
            self.assertEqual(set(self.bound(tree)) & set(dir(builtins)) - {"__init__"}, set(), name)

    def test_only_known_names_are_read(self):
        for name, tree in trees():
            known = set(self.bound(tree)) | BUILT_IN
            read = {node.id for node in ast.walk(tree) if isinstance(node, ast.Name)}
            self.assertEqual(read - known, set(), name)

    def test_locals_are_not_called_like_classes_and_imports(self):
        for name, tree in trees():
            tops = set()
            for node in tree.body:
                if isinstance(node, ast.ClassDef):
                    tops.add(node.name)
                if isinstance(node, ast.ImportFrom):
                    tops.update(one.name for one in node.names)
            inner = set()
            for function in [node for node in ast.walk(tree) if isinstance(node, ast.FunctionDef)]:
                for node in ast.walk(function):
                    if isinstance(node, ast.Name) and isinstance(node.ctx, ast.Store):
                        inner.add(node.id)
                    if isinstance(node, ast.arg):
                        inner.add(node.arg)
            self.assertEqual(tops & inner, set(), name)

    def test_methods_of_pythons_own_values(self):
        for name, node in nodes():
            if isinstance(node, ast.Attribute) and node.attr in PYTHONS_OWN:
                self.assertIn(node.attr, METHODS, (name, node.lineno))


class Tops(unittest.TestCase):
    def test_what_stands_at_the_top(self):
        for name, tree in trees():
            names = []
            for place, node in enumerate(tree.body):
                kinds = (ast.ImportFrom, ast.FunctionDef, ast.ClassDef, ast.Assign)
                if place == 0:
                    self.assertIsInstance(ast.get_docstring(tree), str, name)
                else:
                    self.assertIsInstance(node, kinds, (name, node.lineno))
                if isinstance(node, ast.Assign):
                    ast.literal_eval(node.value)
                    names.append(node.targets[0].id)
                if isinstance(node, (ast.FunctionDef, ast.ClassDef)):
                    names.append(node.name)
            self.assertEqual(len(names), len(set(names)), name)

    def test_imports(self):
        defined = {}
        for name, tree in trees():
            defined["treebridge." + name[:-3]] = {
                node.name if not isinstance(node, ast.Assign) else node.targets[0].id
                for node in tree.body if isinstance(node, (ast.FunctionDef, ast.ClassDef, ast.Assign))}
        for name, node in nodes():
            if isinstance(node, ast.ImportFrom):
                self.assertEqual(node.level, 0, name)
                for one in node.names:
                    self.assertIn(one.name, defined[node.module], name)
                    self.assertIsNone(one.asname, name)

    def test_no_two_files_draw_from_one_another(self):
        drawn = {}
        for name, tree in trees():
            drawn["treebridge." + name[:-3]] = {
                node.module for node in tree.body if isinstance(node, ast.ImportFrom)}
        while drawn:
            free = [module for module in drawn if not drawn[module] & set(drawn)]
            self.assertNotEqual(free, [], "these draw from one another: " + ", ".join(sorted(drawn)))
            for module in free:
                drawn.pop(module)
