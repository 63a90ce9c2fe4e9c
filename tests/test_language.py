"""The package keeps to the part of Python that ../shared/LANGUAGE.md tells: what a tree of the code shows of it."""

import ast
import builtins
import pathlib
import re
import unittest

PACKAGE = pathlib.Path(__file__).resolve().parent.parent / "grammarpairs"

ALLOWED_NODES = """
Module Expr Assign AugAssign If While For Return Break Continue Pass Raise Try ExceptHandler Call Attribute
Subscript Slice FunctionDef ClassDef ImportFrom alias arguments arg Lambda Name Constant List Tuple Dict Set
ListComp comprehension JoinedStr FormattedValue BinOp UnaryOp BoolOp Compare IfExp keyword Load Store
Add Sub Mult FloorDiv Mod Pow BitAnd BitOr BitXor LShift RShift Invert USub UAdd Not And Or
Eq NotEq Lt LtE Gt GtE Is IsNot In NotIn
""".split()

ALLOWED_BUILTINS = """
len range enumerate zip min max sum abs sorted reversed int str bool list tuple dict set frozenset isinstance ord
repr any all divmod Exception ValueError TypeError KeyError IndexError LookupError ZeroDivisionError
ArithmeticError OverflowError RuntimeError NotImplementedError AttributeError StopIteration
""".split()

ALLOWED_METHODS = """
append clear copy count endswith extend find get index insert isalnum isalpha isdigit islower isspace isupper items
join keys ljust lower lstrip partition pop remove replace reverse rfind rjust rpartition rsplit rstrip setdefault
split splitlines startswith strip update upper values zfill bit_length
""".split()

BARRED_WORDS = """
type typing typing_extensions enum Enum IntEnum StrEnum Flag IntFlag Generic Protocol ABC ABCMeta namedtuple
NamedTuple TypedDict TYPE_CHECKING abstractmethod
""".split()

BARRED_NAMES = """
register mro elements open input version_info with_traceback add_note attrgetter breakpoint builtins compile
copyright credits delattr dir eval exec exit gc getattr globals hasattr help id importlib license locals
methodcaller os quit setattr super sys vars
""".split()

BARRED_VALUES = """
items keys values pop update append clear extend insert remove reverse setdefault sort args encode format
""".split()

FREE_VALUES = "count index title find get join lower upper split strip copy add".split()

OWN_METHODS = "__init__ __eq__ __repr__ __str__ __len__".split()

KEYWORDS = {
    "sorted": "key reverse", "min": "key default", "max": "key default", "sum": "start", "enumerate": "start",
    "zip": "strict",
}

WALKED_AT_ONCE = "zip enumerate reversed range".split()

WALKERS = "list tuple dict sorted sum any all enumerate zip min max".split()


def package_files():
    return sorted(path for path in PACKAGE.rglob("*") if "__pycache__" not in path.parts)


def modules():
    """Give each file of the package with its text and tree."""
    for path in package_files():
        text = path.read_text(encoding="utf-8")
        yield path, text, ast.parse(text)


def nodes(*kinds):
    for path, _, tree in modules():
        for node in ast.walk(tree):
            if isinstance(node, kinds):
                yield path.name, node


def bound_at_top(tree):
    names = []
    for node in tree.body:
        if isinstance(node, (ast.FunctionDef, ast.ClassDef)):
            names.append(node.name)
        elif isinstance(node, ast.Assign):
            names += [target.id for target in node.targets]
        elif isinstance(node, ast.ImportFrom):
            names += [alias.name for alias in node.names]
    return names


def bound_within(tree):
    """Give the names of parameters, locals and loops anywhere below the file's top."""
    names = []
    for function in [node for node in ast.walk(tree) if isinstance(node, (ast.FunctionDef, ast.Lambda))]:
        for node in ast.walk(function):
            if isinstance(node, ast.arg):
                names.append(node.arg)
            elif isinstance(node, ast.Name) and isinstance(node.ctx, ast.Store):
                names.append(node.id)
    return names


def own_methods_and_values():
    methods, values = set(), set()
    for _, node in nodes(ast.ClassDef):
        methods |= {part.name for part in node.body if isinstance(part, ast.FunctionDef)}
    for _, node in nodes(ast.Attribute):
        if isinstance(node.ctx, ast.Store):
            values.add(node.attr)
    return methods, values


class Files(unittest.TestCase):
    def test_files_and_their_names(self):
        self.assertIn(PACKAGE / "desk.py", package_files())
        self.assertIn(PACKAGE / "__init__.py", package_files())
        for path in package_files():
            self.assertTrue(path.is_file(), path)
            self.assertRegex(path.name, r"^([a-z][a-z0-9_]*|__init__)\.py$")
            self.assertNotIn(path.stem, dir(builtins) + BARRED_WORDS)
            self.assertNotRegex(path.stem, r"^(test.*|site|conftest|sitecustomize|usercustomize)$")

    def test_signs_and_sizes(self):
        for path, text, tree in modules():
            self.assertRegex(text, r"\A[ -~\n]*\Z", path)
            self.assertLessEqual(len(text.splitlines()), 400, path)
            self.assertLessEqual(max(len(line) for line in text.splitlines()), 120, path)
            for node in ast.walk(tree):
                if isinstance(node, ast.FunctionDef):
                    self.assertLessEqual(node.end_lineno - node.lineno + 1, 40, (path, node.name))

    def test_words_that_stand_nowhere(self):
        for path, text, _ in modules():
            for word in re.findall(r"\w+", text):
                self.assertNotIn(word, BARRED_WORDS, path)
                self.assertNotRegex(word, "dataclass|overload|contextmanager", path)


class TopOfFiles(unittest.TestCase):
    def test_what_stands_there(self):
        for path, _, tree in modules():
            self.assertIsNotNone(ast.get_docstring(tree), path)
            for node in tree.body[1:]:
                self.assertIsInstance(node, (ast.ImportFrom, ast.FunctionDef, ast.ClassDef, ast.Assign), path)
                for inner in ast.walk(node.value) if isinstance(node, ast.Assign) else []:
                    self.assertNotIsInstance(inner, (ast.Call, ast.ListComp, ast.Set, ast.Lambda), path)

    def test_imports_stand_first_and_name_what_the_file_defines(self):
        trees = {"grammarpairs." + path.stem: tree for path, _, tree in modules()}
        for path, _, tree in modules():
            kinds = [isinstance(node, ast.ImportFrom) for node in tree.body[1:]]
            self.assertEqual(kinds, sorted(kinds, reverse=True), path)
            for node in [node for node in tree.body if isinstance(node, ast.ImportFrom)]:
                self.assertEqual(node.level, 0, path)
                source = trees[node.module]
                imported = [alias.name for part in source.body if isinstance(part, ast.ImportFrom)
                            for alias in part.names]
                for alias in node.names:
                    self.assertIsNone(alias.asname, path)
                    self.assertIn(alias.name, bound_at_top(source), path)
                    self.assertNotIn(alias.name, imported, path)

    def test_no_two_files_draw_from_one_another(self):
        drawn = {}
        for path, _, tree in modules():
            drawn["grammarpairs." + path.stem] = [part.module for part in tree.body if isinstance(part, ast.ImportFrom)]
        while drawn:
            free = [name for name in drawn if not any(other in drawn for other in drawn[name])]
            self.assertTrue(free, drawn)
            drawn = {name: others for name, others in drawn.items() if name not in free}

    def test_each_name_once(self):
        for path, _, tree in modules():
            names = bound_at_top(tree)
            self.assertEqual(len(names), len(set(names)), path)

    def test_lists_and_dicts_of_the_top_hold_none_themselves(self):
        for path, _, tree in modules():
            for node in [node for node in tree.body if isinstance(node, ast.Assign)]:
                for inner in list(ast.walk(node.value))[1:]:
                    self.assertNotIsInstance(inner, (ast.List, ast.Dict), path)


class Statements(unittest.TestCase):
    def test_kinds_of_nodes(self):
        for name, node in nodes(ast.AST):
            self.assertIn(node.__class__.__name__, ALLOWED_NODES, (name, getattr(node, "lineno", 0)))

    def test_one_target(self):
        for name, node in nodes(ast.Assign):
            self.assertEqual(len(node.targets), 1, (name, node.lineno))
            self.assertIsInstance(node.targets[0], (ast.Name, ast.Attribute, ast.Subscript), (name, node.lineno))

    def test_loops_and_tries(self):
        for name, node in nodes(ast.For, ast.While):
            self.assertEqual(node.orelse, [], (name, node.lineno))
        for name, node in nodes(ast.Try):
            self.assertEqual(node.finalbody, [], (name, node.lineno))

    def test_a_call_or_a_docstring_by_itself(self):
        for name, node in nodes(ast.Expr):
            docstring = isinstance(node.value, ast.Constant) and isinstance(node.value.value, str)
            self.assertTrue(docstring or isinstance(node.value, ast.Call), (name, node.lineno))

    def test_functions(self):
        for name, node in nodes(ast.FunctionDef):
            told = node.args
            self.assertEqual([], node.decorator_list + told.kwonlyargs + told.posonlyargs, (name, node.lineno))
            self.assertIsNone(told.vararg or told.kwarg or node.returns, (name, node.lineno))

    def test_classes(self):
        for name, node in nodes(ast.ClassDef):
            self.assertEqual([], node.decorator_list + node.keywords, (name, node.lineno))
            self.assertLessEqual(len(node.bases), 1, (name, node.lineno))
            for part in node.body:
                self.assertIsInstance(part, (ast.FunctionDef, ast.Expr), (name, part.lineno))
            named = [part.name for part in node.body if isinstance(part, ast.FunctionDef)]
            self.assertEqual(len(named), len(set(named)), name)

    def test_comprehensions(self):
        for name, node in nodes(ast.ListComp):
            self.assertEqual(len(node.generators), 1, (name, node.lineno))
            self.assertLessEqual(len(node.generators[0].ifs), 1, (name, node.lineno))

    def test_values(self):
        for name, node in nodes(ast.Constant):
            self.assertIn(type(node.value), (int, str, bool, type(None)), (name, node.lineno))
            if isinstance(node.value, str):
                self.assertNotIn("%", node.value, (name, node.lineno))

    def test_is(self):
        for name, node in nodes(ast.Compare):
            for operator, value in zip(node.ops, node.comparators):
                if isinstance(operator, (ast.Is, ast.IsNot)):
                    self.assertIsInstance(value, ast.Constant, (name, node.lineno))
                    self.assertIn(value.value, (None, True, False), (name, node.lineno))

    def test_powers(self):
        for name, node in nodes(ast.BinOp):
            if isinstance(node.op, ast.Pow):
                self.assertIsInstance(node.right, ast.Constant, (name, node.lineno))
                self.assertIn(node.right.value, range(65), (name, node.lineno))

    def test_sets_are_asked_or_sorted_on_the_spot(self):
        for path, _, tree in modules():
            allowed = []
            for node in ast.walk(tree):
                if isinstance(node, ast.Compare):
                    allowed += [node.left] + node.comparators
                elif isinstance(node, ast.Call) and isinstance(node.func, ast.Name) and not node.keywords:
                    allowed += node.args if node.func.id in ("sorted", "len") else []
            for node in ast.walk(tree):
                if isinstance(node, ast.Call) and isinstance(node.func, ast.Name) and node.func.id == "set":
                    self.assertIn(node, allowed, (path, node.lineno))

    def test_keywords(self):
        for name, node in nodes(ast.Call):
            told = [keyword.arg for keyword in node.keywords]
            if isinstance(node.func, ast.Name) and node.func.id in KEYWORDS:
                self.assertLessEqual(set(told), set(KEYWORDS[node.func.id].split()), (name, node.lineno))
            elif isinstance(node.func, ast.Attribute) or node.func.id in ALLOWED_BUILTINS:
                self.assertEqual(told, [], (name, node.lineno))

    def test_walked_at_once(self):
        for path, _, tree in modules():
            allowed = []
            for node in ast.walk(tree):
                if isinstance(node, (ast.For, ast.comprehension)):
                    allowed.append(node.iter)
                elif isinstance(node, ast.Call) and isinstance(node.func, ast.Name) and node.func.id in WALKERS:
                    allowed += node.args
            for node in ast.walk(tree):
                if isinstance(node, ast.Call) and isinstance(node.func, ast.Name) and node.func.id in WALKED_AT_ONCE:
                    self.assertIn(node, allowed, (path, node.lineno))


class Names(unittest.TestCase):
    def test_plain_names(self):
        for path, _, tree in modules():
            methods = [node.name for node in ast.walk(tree) if isinstance(node, ast.FunctionDef)]
            for name in methods + bound_at_top(tree) + bound_within(tree):
                if name not in OWN_METHODS:
                    self.assertRegex(name, r"^[A-Za-z][A-Za-z0-9_]*$", path)

    def test_no_other_builtin_and_none_given_another_meaning(self):
        for path, _, tree in modules():
            bound = bound_at_top(tree) + bound_within(tree)
            for name in bound:
                self.assertNotIn(name, dir(builtins) + BARRED_NAMES, path)
            for node in [node for node in ast.walk(tree) if isinstance(node, ast.Name)]:
                self.assertIn(node.id, bound + ALLOWED_BUILTINS, (path, node.lineno))
                self.assertNotIn(node.id, BARRED_NAMES, (path, node.lineno))

    def test_locals_are_not_called_like_what_stands_at_the_top(self):
        for path, _, tree in modules():
            self.assertEqual(set(bound_at_top(tree)) & set(bound_within(tree)), set(), path)

    def test_methods_and_values(self):
        methods, values = own_methods_and_values()
        self.assertEqual(methods & values, set())
        python_own = {name for kind in (str, int, list, dict, set, bytes, tuple) for name in dir(kind)}
        self.assertEqual((values & python_own) - set(FREE_VALUES), set())
        self.assertEqual(values & set(BARRED_VALUES + BARRED_NAMES), set())
        plain = methods - set(OWN_METHODS) - set(ALLOWED_METHODS) - {"add", "discard"}
        self.assertEqual(plain & (python_own | set(BARRED_NAMES)), set())
        for name, node in nodes(ast.Attribute):
            self.assertIn(node.attr, methods | values | set(ALLOWED_METHODS), (name, node.lineno))

    def test_methods_of_pythons_own_are_called_where_they_stand(self):
        methods, values = own_methods_and_values()
        for path, _, tree in modules():
            called = [node.func for node in ast.walk(tree) if isinstance(node, ast.Call)]
            for node in [node for node in ast.walk(tree) if isinstance(node, ast.Attribute)]:
                if node.attr not in values:
                    self.assertIn(node, called, (path, node.lineno))


if __name__ == "__main__":
    unittest.main()
