"""The package keeps to LANGUAGE.md: those rules that can be read off its files one by one."""

import ast
import builtins
import pathlib
import re
import unittest

PACKAGE = pathlib.Path(__file__).resolve().parent.parent / "letterdesk"

STATEMENTS = (
    ast.Module, ast.FunctionDef, ast.ClassDef, ast.ImportFrom, ast.Assign, ast.AugAssign, ast.If, ast.While, ast.For,
    ast.Return, ast.Break, ast.Continue, ast.Pass, ast.Raise, ast.Try, ast.ExceptHandler, ast.Expr, ast.alias,
    ast.arguments, ast.arg, ast.keyword,
)
EXPRESSIONS = (
    ast.Constant, ast.List, ast.Tuple, ast.Dict, ast.BinOp, ast.UnaryOp, ast.BoolOp, ast.Compare, ast.IfExp, ast.Call,
    ast.Attribute, ast.Subscript, ast.Slice, ast.ListComp, ast.comprehension, ast.JoinedStr, ast.FormattedValue,
    ast.Name, ast.Lambda, ast.expr_context, ast.operator, ast.unaryop, ast.boolop, ast.cmpop,
)
OWN_NAMES = set(
    "len range enumerate zip min max sum abs sorted reversed int str bool list tuple dict set frozenset isinstance "
    "ord repr any all divmod Exception ValueError KeyError IndexError LookupError ZeroDivisionError ArithmeticError "
    "OverflowError RuntimeError NotImplementedError StopIteration".split())
OWN_METHODS = set(
    "append clear copy count endswith extend find get index insert isalnum isalpha isdigit islower isspace isupper "
    "items join keys ljust lower lstrip partition pop remove replace reverse rfind rjust rpartition rsplit rstrip "
    "setdefault split splitlines startswith strip update upper values zfill bit_length".split())
DUNDERS = ("__init__", "__eq__", "__repr__", "__str__", "__len__")
WORDS = re.compile(
    r"\b(type|typing|typing_extensions|enum|Enum|IntEnum|StrEnum|Flag|IntFlag|Generic|Protocol|ABC|ABCMeta|namedtuple|"
    r"NamedTuple|TypedDict|TYPE_CHECKING|abstractmethod)\b|dataclass|overload|contextmanager")

# Names that L17 rules out as a name, a method or a value, and those that it rules out as a name.
NOWHERE = set("register mro elements open input version_info with_traceback add_note format format_map".split())
NO_NAMES = set(
    "attrgetter breakpoint builtins compile copyright credits delattr dir eval exec exit gc getattr globals hasattr "
    "help id importlib license locals methodcaller os quit setattr super type vars sys".split())
KINDS = (str, int, list, dict, set, frozenset, tuple, bytes)
FREE_METHODS = OWN_METHODS | {"add", "discard"}
FREE_VALUES = set("count index title find get join lower upper split strip copy add".split())
NO_VALUES = {"args"}
WALKED = ("zip", "enumerate", "reversed", "range", "items", "keys", "values")
WALKERS = ("list", "tuple", "dict", "sorted", "sum", "any", "all", "enumerate", "zip", "min", "max")


def files():
    return sorted(path for path in PACKAGE.rglob("*") if "__pycache__" not in path.parts)


def trees():
    return [(path, ast.parse(path.read_text("utf-8"))) for path in files()]


def nodes(kind):
    return [(path, node) for path, tree in trees() for node in ast.walk(tree) if isinstance(node, kind)]


def bound_names(tree):
    """Each name that a file gives a meaning to itself."""
    names = set()
    for node in ast.walk(tree):
        if isinstance(node, (ast.FunctionDef, ast.ClassDef)):
            names.add(node.name)
        elif isinstance(node, ast.arg):
            names.add(node.arg)
        elif isinstance(node, ast.alias):
            names.add(node.asname or node.name)
        elif isinstance(node, ast.ExceptHandler) and node.name:
            names.add(node.name)
        elif isinstance(node, ast.Name) and isinstance(node.ctx, ast.Store):
            names.add(node.id)
    return names


def called(node):
    """The name or the method that a call names, else None."""
    if isinstance(node, ast.Call):
        return getattr(node.func, "id", getattr(node.func, "attr", None))
    return None


def with_parents(tree):
    return [(parent, child) for parent in ast.walk(tree) for child in ast.iter_child_nodes(parent)]


def classes():
    """The package's own classes by their names."""
    return {node.name: node for path, node in nodes(ast.ClassDef)}


def own_methods():
    return {node.name for made in classes().values() for node in made.body if isinstance(node, ast.FunctionDef)}


def own_values():
    return {node.attr for path, node in nodes(ast.Attribute) if isinstance(node.ctx, ast.Store)}


def drawn_from(path):
    """The names of the files that this one draws from."""
    return [node.module.split(".")[-1] for other, node in nodes(ast.ImportFrom) if other == path]


def local_names(tree):
    """Parameters, and what is bound within functions."""
    names = set()
    for node in ast.walk(tree):
        if isinstance(node, (ast.FunctionDef, ast.Lambda)):
            for inner in ast.walk(node):
                if isinstance(inner, ast.arg):
                    names.add(inner.arg)
                elif isinstance(inner, ast.Name) and isinstance(inner.ctx, ast.Store):
                    names.add(inner.id)
                elif isinstance(inner, ast.ExceptHandler) and inner.name:
                    names.add(inner.name)
    return names


class LanguageTest(unittest.TestCase):
    def test_the_files(self):
        names = [path.name for path in files()]
        for name in ("__init__.py", "errors.py", "days.py", "threads.py", "letter.py", "book.py", "story.py"):
            self.assertIn(name, names)
        for name in names:
            self.assertRegex(name, r"^(__init__|[a-z][a-z0-9_]*)\.py$")

    def test_signs_words_and_sizes(self):
        for path in files():
            text = path.read_text("utf-8")
            self.assertRegex(text, r"\A[ -~\n]*\Z", path)
            self.assertIsNone(WORDS.search(text), path)
            self.assertLessEqual(len(text.splitlines()), 400, path)
            for line in text.splitlines():
                self.assertLessEqual(len(line), 120, (path, line))

    def test_functions(self):
        for path, node in nodes(ast.FunctionDef):
            place = (path, node.name)
            self.assertLessEqual(node.end_lineno - node.lineno + 1, 40, place)
            self.assertEqual(node.decorator_list, [], place)
            self.assertEqual((node.args.vararg, node.args.kwarg, node.args.kwonlyargs), (None, None, []), place)

    def test_only_what_the_rules_list_is_written(self):
        for path, node in nodes(ast.AST):
            # A set is made by `set(..)`, so neither a written one nor a walk that yields is among these.
            self.assertIsInstance(node, STATEMENTS + EXPRESSIONS, (path, getattr(node, "lineno", None)))
            self.assertNotIsInstance(node, (ast.Div, ast.MatMult), path)

    def test_values_are_whole_numbers_and_texts(self):
        for path, node in nodes(ast.Constant):
            self.assertIn(type(node.value), (int, str, bool, type(None)), (path, node.lineno))
            if isinstance(node.value, str):
                self.assertNotIn("%", node.value, (path, node.lineno))

    def test_one_plain_target_in_an_assignment(self):
        for path, node in nodes(ast.Assign):
            self.assertEqual(len(node.targets), 1, (path, node.lineno))
            self.assertNotIsInstance(node.targets[0], (ast.Tuple, ast.List), (path, node.lineno))

    def test_no_else_behind_a_loop_and_no_finally(self):
        for path, node in nodes((ast.For, ast.While)):
            self.assertEqual(node.orelse, [], (path, node.lineno))
        for path, node in nodes(ast.Try):
            self.assertEqual(node.finalbody, [], (path, node.lineno))

    def test_comprehensions_have_one_walk_and_one_condition(self):
        for path, node in nodes(ast.ListComp):
            self.assertEqual(len(node.generators), 1, (path, node.lineno))
            self.assertLessEqual(len(node.generators[0].ifs), 1, (path, node.lineno))

    def test_names(self):
        for path, tree in trees():
            bound = bound_names(tree)
            self.assertEqual(bound & OWN_NAMES, set(), path)
            for name in bound - set(DUNDERS):
                self.assertRegex(name, r"^[A-Za-z][A-Za-z0-9_]*$", path)
            for node in ast.walk(tree):
                if isinstance(node, ast.Name):
                    self.assertIn(node.id, bound | OWN_NAMES, (path, node.lineno))

    def test_methods_of_python_s_own(self):
        own = set()
        for path, tree in trees():
            own |= bound_names(tree)
        for path, node in nodes(ast.Call):
            if isinstance(node.func, ast.Attribute):
                self.assertIn(node.func.attr, OWN_METHODS | own | set(DUNDERS), (path, node.lineno))

    def test_imports_are_the_package_s_own(self):
        for path, node in nodes(ast.ImportFrom):
            self.assertEqual(node.level, 0, path)
            self.assertRegex(node.module, r"^letterdesk\.[a-z_]+$", path)
            self.assertNotIn("*", [name.name for name in node.names], path)

    def test_is_stands_beside_none_true_and_false(self):
        for path, node in nodes(ast.Compare):
            for operator, right in zip(node.ops, node.comparators):
                if isinstance(operator, (ast.Is, ast.IsNot)):
                    self.assertIsInstance(right, ast.Constant, (path, node.lineno))
                    self.assertIn(right.value, (None, True, False), (path, node.lineno))

    def test_the_top_of_a_file(self):
        for path, tree in trees():
            self.assertIsNotNone(ast.get_docstring(tree), path)
            bound = []
            for node in tree.body[1:]:
                self.assertIsInstance(
                    node, (ast.ImportFrom, ast.FunctionDef, ast.ClassDef, ast.Assign), (path, node.lineno))
                if isinstance(node, ast.ImportFrom):
                    bound += [name.asname or name.name for name in node.names]
                elif isinstance(node, ast.Assign):
                    bound.append(node.targets[0].id)
                else:
                    bound.append(node.name)
            self.assertEqual(len(bound), len(set(bound)), path)

    def test_lists_and_dicts_of_the_top_are_read_by_an_index_or_in_alone(self):
        for path, tree in trees():
            kept = [node.targets[0].id for node in tree.body
                    if isinstance(node, ast.Assign) and isinstance(node.value, (ast.List, ast.Dict))]
            for parent, child in with_parents(tree):
                if isinstance(child, ast.Name) and child.id in kept and isinstance(child.ctx, ast.Load):
                    self.assertIsInstance(parent, (ast.Subscript, ast.Compare), (path, child.lineno))
                    self.assertIsInstance(getattr(parent, "ctx", ast.Load()), ast.Load, (path, child.lineno))

    def test_classes(self):
        own = classes()
        for path, tree in trees():
            for node in [inner for inner in ast.walk(tree) if isinstance(inner, ast.ClassDef)]:
                self.assertIn(node, tree.body, path)
                self.assertLessEqual(len(node.bases), 1, (path, node.name))
                for base in node.bases:
                    self.assertIn(base.id, set(own) | {"Exception", "ValueError"}, (path, node.name))
                self.assertEqual((node.keywords, node.decorator_list), ([], []), (path, node.name))
                for inner in node.body[1:]:
                    self.assertIsInstance(inner, ast.FunctionDef, (path, node.name))
                methods = [inner.name for inner in node.body[1:]]
                self.assertEqual(len(methods), len(set(methods)), (path, node.name))

    def test_classes_are_called_or_raised_or_taken_and_not_handed_on(self):
        own = classes()
        for path, tree in trees():
            for parent, child in with_parents(tree):
                if isinstance(child, ast.Name) and child.id in own:
                    place = (path, child.lineno)
                    self.assertIsInstance(parent, (ast.Call, ast.ClassDef, ast.ExceptHandler, ast.Attribute), place)
                    if isinstance(parent, ast.Call):
                        self.assertIs(parent.func, child, place)
                    if isinstance(parent, ast.Attribute):
                        self.assertEqual(parent.attr, "__init__", place)

    def test_no_name_is_a_method_here_and_a_value_there(self):
        self.assertEqual(own_methods() & own_values(), set())

    def test_own_methods_and_values_are_free_names(self):
        of_python = {name for kind in KINDS for name in dir(kind)}
        self.assertEqual((own_methods() - FREE_METHODS - set(DUNDERS)) & (of_python | NOWHERE), set())
        self.assertEqual((own_values() - FREE_VALUES) & (of_python | NOWHERE | NO_VALUES), set())

    def test_values_are_given_through_a_local_name(self):
        for path, tree in trees():
            tops = bound_names(ast.Module([node for node in tree.body if isinstance(node, ast.Assign)], []))
            for node in ast.walk(tree):
                if isinstance(node, ast.Attribute) and isinstance(node.ctx, ast.Store):
                    self.assertIsInstance(node.value, ast.Name, (path, node.lineno))
                    self.assertNotIn(node.value.id, tops | set(classes()), (path, node.lineno))

    def test_locals_are_not_called_like_classes_imports_or_python_s_own(self):
        for path, tree in trees():
            taken = {node.name for node in ast.walk(tree) if isinstance(node, (ast.ClassDef, ast.alias))}
            self.assertEqual(local_names(tree) & (taken | set(dir(builtins)) | NO_NAMES | NOWHERE), set(), path)

    def test_names_come_from_the_file_that_defines_them_and_no_two_files_draw_from_one_another(self):
        drawn = {path.stem: drawn_from(path) for path in files()}
        for path, node in nodes(ast.ImportFrom):
            source = PACKAGE / (node.module.split(".")[-1] + ".py")
            tops = {getattr(inner, "name", None) for inner in ast.parse(source.read_text("utf-8")).body}
            self.assertLessEqual({name.name for name in node.names}, tops, path)
        for name in drawn:
            reached, ahead = set(), list(drawn[name])
            while ahead:
                step = ahead.pop()
                if step not in reached:
                    reached.add(step)
                    ahead += drawn[step]
            self.assertNotIn(name, reached)
        self.assertEqual(drawn["__init__"], [])

    def test_errors_are_raised_on_the_spot_and_taken_by_name(self):
        own = set(classes())
        for path, node in nodes(ast.Raise):
            self.assertIn(called(node.exc), own, (path, node.lineno))
        for path, node in nodes(ast.ExceptHandler):
            self.assertIn(node.type.id, own | {"KeyError", "ZeroDivisionError", "StopIteration"}, (path, node.lineno))

    def test_one_error_class_for_each_refusal(self):
        tree = ast.parse((PACKAGE / "errors.py").read_text("utf-8"))
        words = [node.args[1].value for node in ast.walk(tree) if called(node) == "__init__"]
        self.assertEqual(words, [
            "no letter", "no term", "has one", "has none", "own thread", "same way", "other partner", "too early",
            "copied", "answered", "counts not"])

    def test_walks_stand_on_the_spot(self):
        for path, tree in trees():
            for parent, child in with_parents(tree):
                if called(child) in WALKED:
                    place = (path, child.lineno)
                    if isinstance(parent, ast.Call):
                        self.assertIn(called(parent), WALKERS, place)
                    else:
                        self.assertIsInstance(parent, (ast.For, ast.comprehension), place)
                        self.assertIs(parent.iter, child, place)

    def test_sets_are_neither_kept_nor_walked(self):
        for path, tree in trees():
            for parent, child in with_parents(tree):
                if called(child) in ("set", "frozenset"):
                    self.assertTrue(
                        isinstance(parent, ast.Compare) or called(parent) in ("sorted", "len"), (path, child.lineno))

    def test_python_s_own_is_called_and_not_kept(self):
        for path, tree in trees():
            for parent, child in with_parents(tree):
                if isinstance(child, ast.Name) and child.id in OWN_NAMES and child.id[0].islower():
                    self.assertIsInstance(parent, ast.Call, (path, child.lineno))
                    self.assertIs(parent.func, child, (path, child.lineno))

    def test_methods_are_called_where_they_stand(self):
        methods = own_methods()
        for path, tree in trees():
            for parent, child in with_parents(tree):
                if isinstance(child, ast.Attribute) and child.attr in methods | OWN_METHODS:
                    self.assertIsInstance(parent, ast.Call, (path, child.lineno))
                    self.assertIs(parent.func, child, (path, child.lineno))

    def test_no_powers_but_written_ones(self):
        for path, node in nodes(ast.BinOp):
            if isinstance(node.op, ast.Pow):
                self.assertIsInstance(node.right, ast.Constant, (path, node.lineno))


if __name__ == "__main__":
    unittest.main()
