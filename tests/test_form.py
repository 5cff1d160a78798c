"""Holds the package's code against the rules of form that can be told from a file's signs and tree alone."""

import ast
import builtins
import pathlib
import re
import unittest

PACKAGE = "traitorround"
FOLDER = pathlib.Path(__file__).resolve().parent.parent / PACKAGE

OWN_NAMES = set("""
len range enumerate zip min max sum abs sorted reversed int str bool list tuple dict set frozenset isinstance ord repr
any all divmod Exception ValueError TypeError KeyError IndexError LookupError ZeroDivisionError ArithmeticError
OverflowError RuntimeError NotImplementedError AttributeError StopIteration
""".split())

METHODS = set("""
append clear copy count endswith extend find get index insert isalnum isalpha isdigit islower isspace isupper items
join keys ljust lower lstrip partition pop remove replace reverse rfind rjust rpartition rsplit rstrip setdefault split
splitlines startswith strip update upper values zfill bit_length
""".split())

TWO_UNDERSCORES = ["__init__", "__eq__", "__repr__", "__str__", "__len__"]

BANNED_NODES = (
    ast.With, ast.Match, ast.Delete, ast.Global, ast.Nonlocal, ast.Assert, ast.Yield, ast.YieldFrom, ast.Await,
    ast.AsyncFunctionDef, ast.AsyncFor, ast.AsyncWith, ast.SetComp, ast.DictComp, ast.GeneratorExp, ast.NamedExpr,
    ast.Starred, ast.Import, ast.Div, ast.MatMult, ast.AnnAssign,
)

BANNED_WORDS = re.compile(
    r"\b(type|typing|typing_extensions|enum|Enum|IntEnum|StrEnum|Flag|IntFlag|Generic|Protocol|ABC|ABCMeta|namedtuple"
    r"|NamedTuple|TypedDict|TYPE_CHECKING|abstractmethod)\b|dataclass|overload|contextmanager"
)


def files():
    return sorted(path for path in FOLDER.iterdir() if path.name != "__pycache__")


def trees():
    return [(path.name, ast.parse(path.read_text(encoding="utf-8"))) for path in files()]


def nodes(*kinds):
    return [(name, node) for name, tree in trees() for node in ast.walk(tree) if isinstance(node, kinds)]


def bound_names(tree):
    names = []
    for node in ast.walk(tree):
        if isinstance(node, (ast.FunctionDef, ast.ClassDef)):
            names.append(node.name)
        elif isinstance(node, ast.ImportFrom):
            names.extend(alias.asname or alias.name for alias in node.names)
        elif isinstance(node, ast.arg):
            names.append(node.arg)
        elif isinstance(node, ast.Name) and isinstance(node.ctx, ast.Store):
            names.append(node.id)
        elif isinstance(node, ast.ExceptHandler) and node.name:
            names.append(node.name)
    return names


def top_names(tree):
    return [node.name for node in tree.body if isinstance(node, (ast.FunctionDef, ast.ClassDef))] + [
        target.id for node in tree.body if isinstance(node, ast.Assign) for target in node.targets
    ]


class TestFiles(unittest.TestCase):
    def test_files_of_the_package(self):
        self.assertIn("__init__.py", [path.name for path in files()])
        for path in files():
            self.assertTrue(path.is_file(), path)
            self.assertRegex(path.name, r"^(__init__|__main__|[a-z][a-z0-9_]*)\.py$")

    def test_signs_and_sizes(self):
        for path in files():
            text = path.read_text(encoding="utf-8")
            self.assertRegex(text, r"\A[ -~\n]*\Z", path)
            rows = text.split("\n")
            self.assertLessEqual(len(rows), 400, path)
            self.assertLessEqual(max(len(row) for row in rows), 120, path)
            self.assertIsNone(BANNED_WORDS.search(text), path)

    def test_length_of_functions(self):
        for name, node in nodes(ast.FunctionDef):
            self.assertLessEqual(node.end_lineno - node.lineno + 1, 40, (name, node.name))


class TestImports(unittest.TestCase):
    def test_only_names_of_the_files_that_define_them(self):
        told = {f"{PACKAGE}.{name[:-3]}": top_names(tree) for name, tree in trees()}
        for name, tree in trees():
            for node in tree.body:
                if isinstance(node, ast.ImportFrom):
                    self.assertEqual(node.level, 0, name)
                    for alias in node.names:
                        self.assertIn(alias.name, told.get(node.module, []), (name, node.module))

    def test_imports_stand_at_the_top(self):
        for name, tree in trees():
            inside = [node for node in ast.walk(tree) if isinstance(node, ast.ImportFrom) and node not in tree.body]
            self.assertEqual(inside, [], name)

    def test_no_two_files_draw_from_one_another(self):
        drawn = {}
        for name, tree in trees():
            modules = [node.module for node in tree.body if isinstance(node, ast.ImportFrom)]
            drawn[name[:-3]] = [module.split(".")[1] for module in modules] + (["__init__"] if modules else [])
        while drawn:
            free = [name for name in drawn if not drawn[name]]
            self.assertTrue(free, drawn)
            drawn = {name: [d for d in drawn[name] if d not in free] for name in drawn if name not in free}


class TestCode(unittest.TestCase):
    def test_statements_and_expressions(self):
        for name, node in nodes(*BANNED_NODES):
            self.fail((name, node.__class__.__name__, getattr(node, "lineno", None)))
        for name, node in nodes(ast.For, ast.While):
            self.assertEqual(node.orelse, [], name)
        for name, node in nodes(ast.Try):
            self.assertEqual(node.finalbody, [], name)
        for name, node in nodes(ast.Assign):
            self.assertEqual(len(node.targets), 1, name)
        for name, node in nodes(ast.Constant):
            self.assertIn(node.value.__class__, (int, str, bool, None.__class__), name)
        for name, node in nodes(ast.ListComp):
            self.assertEqual(len(node.generators), 1, name)
            self.assertLessEqual(len(node.generators[0].ifs), 1, name)

    def test_what_stands_by_itself_is_a_call_or_a_docstring(self):
        for name, tree in trees():
            for node in ast.walk(tree):
                if isinstance(node, ast.Expr) and node != tree.body[0]:
                    self.assertIsInstance(node.value, ast.Call, (name, node.lineno))

    def test_functions_and_classes(self):
        for name, node in nodes(ast.FunctionDef):
            self.assertEqual(node.decorator_list, [], name)
            args = node.args
            self.assertEqual((args.vararg, args.kwarg, args.kwonlyargs, args.posonlyargs), (None, None, [], []), name)
        for name, node in nodes(ast.ClassDef):
            self.assertEqual((node.decorator_list, node.keywords), ([], []), name)
            self.assertLessEqual(len(node.bases), 1, name)
            for part in node.body:
                self.assertIsInstance(part, (ast.FunctionDef, ast.Pass), (name, node.name))

    def test_is_stands_beside_none_and_truths_alone(self):
        for name, node in nodes(ast.Compare):
            for op, right in zip(node.ops, node.comparators):
                if isinstance(op, (ast.Is, ast.IsNot)):
                    self.assertIsInstance(right, ast.Constant, name)
                    self.assertIn(right.value, (None, True, False), name)

    def test_exponents_are_written(self):
        for name, node in nodes(ast.BinOp):
            if isinstance(node.op, ast.Pow):
                self.assertIsInstance(node.right, ast.Constant, name)
                self.assertIn(node.right.value, range(65), name)


class TestNames(unittest.TestCase):
    def test_names_that_are_read(self):
        for name, tree in trees():
            bound = bound_names(tree)
            for node in ast.walk(tree):
                if isinstance(node, ast.Name) and node.id not in bound:
                    self.assertIn(node.id, OWN_NAMES, (name, node.lineno))

    def test_names_that_are_bound(self):
        for name, tree in trees():
            for bound in bound_names(tree):
                if bound not in TWO_UNDERSCORES:
                    self.assertRegex(bound, r"^[A-Za-z][A-Za-z0-9_]*$", name)
                    self.assertNotIn(bound, dir(builtins), name)

    def test_names_of_a_files_top_are_bound_once(self):
        for name, tree in trees():
            told = top_names(tree)
            self.assertEqual(len(told), len(set(told)), name)

    def test_methods(self):
        own = [part.name for name, node in nodes(ast.ClassDef) for part in node.body if hasattr(part, "name")]
        for name, node in nodes(ast.Call):
            if isinstance(node.func, ast.Attribute):
                self.assertIn(node.func.attr, METHODS | set(own), (name, node.lineno))


def with_parents():
    """Each node of the package with the nodes around it, the nearest first."""
    found = []

    def walk(name, node, around):
        found.append((name, node, around))
        for child in ast.iter_child_nodes(node):
            walk(name, child, [node] + around)

    for name, tree in trees():
        walk(name, tree, [])
    return found


def is_call_of(node, names):
    return isinstance(node, ast.Call) and isinstance(node.func, ast.Name) and node.func.id in names


def local_names(tree):
    names = []
    for function in ast.walk(tree):
        if isinstance(function, (ast.FunctionDef, ast.Lambda)):
            for node in ast.walk(function):
                if isinstance(node, ast.arg):
                    names.append(node.arg)
                elif isinstance(node, ast.Name) and isinstance(node.ctx, ast.Store):
                    names.append(node.id)
    return names


def own_methods():
    return {part.name for name, node in nodes(ast.ClassDef) for part in node.body if isinstance(part, ast.FunctionDef)}


def own_values():
    return {node.attr for name, node in nodes(ast.Attribute) if isinstance(node.ctx, ast.Store)}


class TestNarrowerRules(unittest.TestCase):
    def test_locals_are_not_called_like_a_class_or_an_import(self):
        for name, tree in trees():
            taken = [alias.name for node in tree.body if isinstance(node, ast.ImportFrom) for alias in node.names]
            taken = taken + [node.name for node in tree.body if isinstance(node, ast.ClassDef)]
            for local in local_names(tree):
                self.assertNotIn(local, taken, name)

    def test_no_import_lies_idle(self):
        for name, tree in trees():
            read = [node.id for node in ast.walk(tree) if isinstance(node, ast.Name)]
            for node in tree.body:
                if isinstance(node, ast.ImportFrom):
                    for alias in node.names:
                        self.assertIn(alias.name, read, name)

    def test_no_name_is_a_method_and_a_value(self):
        self.assertEqual(own_methods() & own_values(), set())

    def test_names_of_methods_and_values_are_free(self):
        pythons = set()
        for value in ("", 0, [], {}, set(), b"", (), frozenset()):
            pythons |= set(dir(value))
        self.assertEqual((own_methods() - set(TWO_UNDERSCORES)) & (pythons - METHODS - {"add", "discard"}), set())
        free = set("count index title find get join lower upper split strip copy add".split())
        self.assertEqual(own_values() & (pythons - free | {"args"}), set())

    def test_names_that_are_not_used(self):
        nowhere = set("register mro elements open input version_info with_traceback add_note format_map".split())
        for name, node in nodes(ast.Attribute, ast.Name, ast.FunctionDef, ast.arg):
            word = getattr(node, "attr", None) or getattr(node, "id", None) or getattr(node, "name", None)
            self.assertNotIn(word, nowhere, name)

    def test_classes_are_called_and_not_handed_on(self):
        classes = {node.name for name, node in nodes(ast.ClassDef)}
        for name, node, around in with_parents():
            if isinstance(node, ast.Name) and node.id in classes:
                near = around[0]
                called = isinstance(near, ast.Call) and near.func is node
                asked = is_call_of(near, ["isinstance"])
                based = isinstance(near, (ast.ClassDef, ast.ExceptHandler))
                above = isinstance(near, ast.Attribute) and near.attr == "__init__"
                self.assertTrue(called or asked or based or above, (name, node.lineno))

    def test_walked_at_once(self):
        takers = ["list", "tuple", "dict", "sorted", "sum", "any", "all", "enumerate", "zip", "min", "max"]
        for name, node, around in with_parents():
            plain = is_call_of(node, ["zip", "enumerate", "reversed", "range"])
            view = isinstance(node, ast.Call) and isinstance(node.func, ast.Attribute)
            view = view and node.func.attr in ("items", "keys", "values")
            if plain or view:
                near = around[0]
                walked = isinstance(near, (ast.For, ast.comprehension)) and near.iter is node
                taken = is_call_of(near, takers) and near.args[0] is node
                self.assertTrue(walked or taken, (name, node.lineno))

    def test_sets_are_not_kept(self):
        for name, node, around in with_parents():
            if is_call_of(node, ["set", "frozenset"]) or isinstance(node, ast.Set):
                near = [part for part in around if not isinstance(part, ast.BinOp)][0]
                taken = is_call_of(near, ["sorted", "len"]) and not near.keywords
                self.assertTrue(taken or isinstance(near, ast.Compare), (name, node.lineno))

    def test_methods_are_called_where_they_stand(self):
        methods = own_methods() | METHODS
        for name, node, around in with_parents():
            if isinstance(node, ast.Attribute) and node.attr in methods:
                near = around[0]
                called = isinstance(near, ast.Call) and near.func is node
                self.assertTrue(called or isinstance(near, ast.keyword), (name, node.lineno))

    def test_keywords(self):
        allowed = {"sorted": ["key", "reverse"], "min": ["key", "default"], "max": ["key", "default"],
                   "sum": ["start"], "enumerate": ["start"], "zip": ["strict"]}
        for name, node in nodes(ast.Call):
            for keyword in node.keywords:
                self.assertIsInstance(node.func, ast.Name, (name, node.lineno))
                self.assertIn(keyword.arg, allowed.get(node.func.id, []), (name, node.lineno))

    def test_python_functions_are_called(self):
        called = OWN_NAMES & set("len range enumerate zip min max sum abs sorted reversed any all divmod repr".split())
        for name, node, around in with_parents():
            if isinstance(node, ast.Name) and node.id in called:
                near = around[0]
                stands = isinstance(near, ast.Call) and near.func is node
                self.assertTrue(stands or isinstance(near, ast.keyword), (name, node.lineno))

    def test_what_a_loop_walks_is_not_changed_in_it(self):
        changes = "append clear extend insert pop remove reverse setdefault update".split()
        for name, loop in nodes(ast.For):
            walked = ast.unparse(loop.iter)
            for part in loop.body:
                for node in ast.walk(part):
                    if isinstance(node, ast.Call) and isinstance(node.func, ast.Attribute):
                        if node.func.attr in changes:
                            self.assertNotEqual(ast.unparse(node.func.value), walked, (name, node.lineno))

    def test_errors_are_taken_by_their_own_names(self):
        classes = {node.name for name, node in nodes(ast.ClassDef)}
        for name, node in nodes(ast.ExceptHandler):
            self.assertIsInstance(node.type, ast.Name, (name, node.lineno))
            self.assertIn(node.type.id, classes | {"KeyError", "ZeroDivisionError", "StopIteration"}, name)

    def test_texts(self):
        for name, node in nodes(ast.Constant):
            if isinstance(node.value, str):
                self.assertNotIn("%", node.value, (name, node.lineno))
        for name, node in nodes(ast.FormattedValue):
            self.assertIsInstance(node.value, ast.Name, (name, node.lineno))
            self.assertIsNone(node.format_spec, (name, node.lineno))

    def test_no_annotation(self):
        for name, node in nodes(ast.FunctionDef, ast.arg):
            told = node.returns if isinstance(node, ast.FunctionDef) else node.annotation
            self.assertIsNone(told, (name, node.lineno))

    def test_targets_are_single_names(self):
        for name, node in nodes(ast.Assign):
            self.assertIsInstance(node.targets[0], (ast.Name, ast.Attribute, ast.Subscript), (name, node.lineno))

    def test_values_at_a_files_top_are_plain(self):
        for name, tree in trees():
            for node in tree.body:
                kinds = (ast.Expr, ast.ImportFrom, ast.FunctionDef, ast.ClassDef, ast.Assign)
                self.assertIsInstance(node, kinds, (name, node.lineno))
                if isinstance(node, ast.Assign):
                    for part in ast.walk(node.value):
                        self.assertNotIsInstance(part, (ast.Call, ast.ListComp, ast.Lambda), (name, node.lineno))


if __name__ == "__main__":
    unittest.main()
