"""The package keeps to the small part of Python that its rules allow, as far as a tree of the code shows it."""

import ast
import builtins
import pathlib
import re
import unittest

PACKAGE = pathlib.Path(__file__).resolve().parent.parent / "primer"

NODES = """Module Import ImportFrom alias FunctionDef arguments arg ClassDef Lambda
Assign AugAssign AnnAssign If While For Return Break Continue Pass Raise Try ExceptHandler Expr Call keyword
Constant Name Attribute Subscript Slice List Tuple Dict Set ListComp comprehension JoinedStr FormattedValue
BinOp UnaryOp BoolOp Compare IfExp Load Store And Or Not Add Sub Mult FloorDiv Mod Pow LShift RShift
BitOr BitXor BitAnd Invert UAdd USub Eq NotEq Lt LtE Gt GtE Is IsNot In NotIn""".split()

OWN_NAMES = """len range enumerate zip min max sum abs sorted reversed int str bool list tuple dict set frozenset
isinstance ord repr any all divmod Exception ValueError TypeError KeyError IndexError LookupError
ZeroDivisionError ArithmeticError OverflowError RuntimeError NotImplementedError AttributeError
StopIteration""".split()

METHODS = """append clear copy count endswith extend find get index insert isalnum isalpha isdigit islower isspace
isupper items join keys ljust lower lstrip partition pop remove replace reverse rfind rjust rpartition rsplit
rstrip setdefault split splitlines startswith strip update upper values zfill bit_length""".split()

BARRED = r"""\b(type|typing|typing_extensions|enum|Enum|IntEnum|StrEnum|Flag|IntFlag|Generic|Protocol|ABC|ABCMeta
|namedtuple|NamedTuple|TypedDict|TYPE_CHECKING|abstractmethod)\b|dataclass|overload|contextmanager""".replace("\n", "")


NOT_NAMES = """register mro elements open input version_info with_traceback add_note attrgetter breakpoint builtins
compile copyright credits delattr dir eval exec exit gc getattr globals hasattr help id importlib license locals
methodcaller os quit setattr super type vars sys""".split()

WALKERS = ["zip", "enumerate", "reversed", "range"]
VIEWS = ["items", "keys", "values"]
WALKED_IN = ["list", "tuple", "dict", "sorted", "sum", "any", "all", "enumerate", "zip"]
KEYWORDS = {"sorted": ["key", "reverse"], "min": ["key", "default"], "max": ["key", "default"], "sum": ["start"],
            "enumerate": ["start"], "zip": ["strict"]}
CHANGES = ["append", "clear", "extend", "insert", "pop", "remove", "reverse", "setdefault", "update"]
PLAIN_VALUES = ["count", "index", "title", "find", "get", "join", "lower", "upper", "split", "strip", "copy", "add"]


def parents_of(tree):
    return {child: node for node in ast.walk(tree) for child in ast.iter_child_nodes(node)}


def bound_names(tree):
    for node in ast.walk(tree):
        if isinstance(node, (ast.FunctionDef, ast.ClassDef)):
            yield node.name
        elif isinstance(node, ast.arg):
            yield node.arg
        elif isinstance(node, ast.Name) and isinstance(node.ctx, ast.Store):
            yield node.id
        elif isinstance(node, ast.alias):
            yield node.asname or node.name


def is_call_of(node, names):
    return isinstance(node, ast.Call) and isinstance(node.func, ast.Name) and node.func.id in names


def set_stands_well(node, parents):
    above = parents[node]
    if isinstance(above, ast.Compare):
        return True
    while isinstance(above, ast.BinOp):
        above = parents[above]
    return is_call_of(above, ["sorted", "len"]) and not above.keywords


def is_view(node):
    return isinstance(node, ast.Call) and isinstance(node.func, ast.Attribute) and node.func.attr in VIEWS


def is_walked_at_once(node, above):
    if isinstance(above, (ast.For, ast.comprehension)):
        return above.iter is node
    if is_call_of(above, WALKED_IN):
        return above.args[0] is node or above.func.id == "zip"
    if is_call_of(above, ["min", "max"]):
        return len(above.args) == 1
    return (isinstance(above, ast.Call) and isinstance(above.func, ast.Attribute) and above.func.attr == "join"
            and isinstance(above.func.value, ast.Constant))


def walked_names(node):
    return {part.id for part in ast.walk(node) if isinstance(part, ast.Name)} if isinstance(
        node, ast.Name) or is_call_of(node, WALKERS) or is_view(node) else set()


def changed_names(loop):
    for part in [each for row in loop.body for each in ast.walk(row)]:
        if isinstance(part, ast.Call) and isinstance(part.func, ast.Attribute) and part.func.attr in CHANGES:
            if isinstance(part.func.value, ast.Name):
                yield part.func.value.id
        if isinstance(part, ast.Subscript) and isinstance(part.ctx, ast.Store) and isinstance(part.value, ast.Name):
            yield part.value.id


class FormTest(unittest.TestCase):
    def setUp(self):
        self.texts = {}
        self.trees = {}
        for path in sorted(PACKAGE.glob("*.py")):
            text = path.read_bytes().decode("utf-8")
            self.texts[path.name] = text
            self.trees[path.name] = ast.parse(text)
        self.assertIn("__init__.py", self.texts)

    def nodes(self, *kinds):
        for name, tree in self.trees.items():
            for node in ast.walk(tree):
                if isinstance(node, kinds):
                    yield f"{name}:{getattr(node, 'lineno', 0)}", node

    def test_nothing_but_files_with_plain_names(self):
        for path in PACKAGE.iterdir():
            if path.name != "__pycache__":
                self.assertRegex(path.name, r"\A([a-z][a-z0-9_]*|__init__|__main__)\.py\Z")

    def test_signs_and_sizes(self):
        for name, text in self.texts.items():
            self.assertRegex(text, r"\A[ -~\n]*\Z", name)
            self.assertLessEqual(len(text.splitlines()), 400, name)
            for line in text.splitlines():
                self.assertLessEqual(len(line), 120, name)
        for place, node in self.nodes(ast.FunctionDef):
            self.assertLessEqual(node.end_lineno - node.lineno + 1, 40, place)

    def test_barred_words(self):
        for name, text in self.texts.items():
            self.assertIsNone(re.search(BARRED, text), name)

    def test_allowed_parts_of_the_language_alone(self):
        for place, node in self.nodes(ast.AST):
            self.assertIn(node.__class__.__name__, NODES, place)

    def test_statements_by_themselves_are_calls(self):
        for name, tree in self.trees.items():
            for node in ast.walk(tree):
                if isinstance(node, ast.Expr) and node is not tree.body[0]:
                    self.assertIsInstance(node.value, ast.Call, f"{name}:{node.lineno}")

    def test_one_target_and_no_else_behind_a_loop(self):
        for place, node in self.nodes(ast.Assign):
            self.assertEqual(len(node.targets), 1, place)
        for place, node in self.nodes(ast.For, ast.While):
            self.assertEqual(node.orelse, [], place)
        for place, node in self.nodes(ast.Try):
            self.assertEqual(node.finalbody, [], place)

    def test_plain_parameters_and_no_decorator(self):
        for place, node in self.nodes(ast.arguments):
            self.assertEqual((node.vararg, node.kwarg, node.kwonlyargs, node.posonlyargs), (None, None, [], []), place)
        for place, node in self.nodes(ast.FunctionDef, ast.ClassDef):
            self.assertEqual(node.decorator_list, [], place)

    def test_classes_hold_methods_alone(self):
        for place, node in self.nodes(ast.ClassDef):
            self.assertLessEqual(len(node.bases), 1, place)
            for part in node.body:
                self.assertIsInstance(part, (ast.FunctionDef, ast.Pass), place)

    def test_constants_are_plain(self):
        for place, node in self.nodes(ast.Constant):
            self.assertIn(node.value.__class__, (int, str, bool, None.__class__), place)
            if isinstance(node.value, str):
                self.assertNotIn("%", node.value, place)

    def test_names(self):
        for name, tree in self.trees.items():
            for bound in bound_names(tree):
                self.assertRegex(bound, r"\A([A-Za-z][A-Za-z0-9_]*|__(init|eq|repr|str|len)__)\Z", name)
                self.assertFalse(hasattr(builtins, bound) and not bound.startswith("__"), (name, bound))
        for place, node in self.nodes(ast.Name):
            if hasattr(builtins, node.id):
                self.assertIn(node.id, OWN_NAMES, place)

    def test_names_that_are_not_used(self):
        for name, tree in self.trees.items():
            for node in ast.walk(tree):
                for part in [getattr(node, "id", None), getattr(node, "attr", None), getattr(node, "arg", None)]:
                    self.assertNotIn(part, NOT_NAMES + ["format", "format_map"], name)

    def test_locals_are_not_called_like_imports_or_anything_of_the_top(self):
        for name, tree in self.trees.items():
            tops = [part.name for part in tree.body if hasattr(part, "name")]
            tops += [alias.name for part in tree.body if isinstance(part, ast.ImportFrom) for alias in part.names]
            tops += [part.targets[0].id for part in tree.body if isinstance(part, ast.Assign)]
            self.assertEqual(len(tops), len(set(tops)), name)
            for node in ast.walk(tree):
                if isinstance(node, (ast.FunctionDef, ast.Lambda)):
                    inner = [part.arg for part in ast.walk(node) if isinstance(part, ast.arg)]
                    inner += [part.id for part in ast.walk(node)
                              if isinstance(part, ast.Name) and isinstance(part.ctx, ast.Store)]
                    self.assertEqual([each for each in inner if each in tops], [], f"{name}:{node.lineno}")

    def test_imports_are_used(self):
        for name, tree in self.trees.items():
            used = [node.id for node in ast.walk(tree) if isinstance(node, ast.Name)]
            for part in tree.body:
                if isinstance(part, ast.ImportFrom):
                    for alias in part.names:
                        self.assertIn(alias.name, used, name)

    def test_values_of_objects(self):
        methods = [node.name for _, tree in self.nodes(ast.ClassDef) for node in tree.body
                   if isinstance(node, ast.FunctionDef)]
        owned = {each for kind in (str, int, list, dict, set, bytes, tuple) for each in dir(kind)}
        for place, node in self.nodes(ast.Attribute):
            if isinstance(node.ctx, ast.Store):
                self.assertNotIn(node.attr, methods, place)
                self.assertTrue(node.attr not in owned or node.attr in PLAIN_VALUES, place)
        for method in methods:
            self.assertTrue(method.startswith("__") or method not in owned or method in METHODS, method)

    def test_comprehensions_and_f_strings_are_plain(self):
        for place, node in self.nodes(ast.ListComp):
            self.assertEqual(len(node.generators), 1, place)
            self.assertLessEqual(len(node.generators[0].ifs), 1, place)
        for place, node in self.nodes(ast.FormattedValue):
            self.assertIsInstance(node.value, ast.Name, place)
            self.assertIsNone(node.format_spec, place)

    def test_keywords(self):
        for place, node in self.nodes(ast.Call):
            for keyword in node.keywords:
                self.assertIn(keyword.arg, KEYWORDS.get(getattr(node.func, "id", None), []), place)

    def test_walked_at_once(self):
        for name, tree in self.trees.items():
            parents = parents_of(tree)
            for node in ast.walk(tree):
                if is_call_of(node, WALKERS) or is_view(node):
                    self.assertTrue(is_walked_at_once(node, parents[node]), f"{name}:{node.lineno}")

    def test_what_a_loop_walks_is_not_changed_in_it(self):
        for place, node in self.nodes(ast.For):
            self.assertEqual(walked_names(node.iter) & set(changed_names(node)), set(), place)

    def test_methods(self):
        own = [node.name for _, node in self.nodes(ast.FunctionDef)]
        for place, node in self.nodes(ast.Call):
            if isinstance(node.func, ast.Attribute):
                self.assertIn(node.func.attr, METHODS + own, place)

    def test_is_beside_none_true_and_false_alone(self):
        for place, node in self.nodes(ast.Compare):
            if any(isinstance(sign, (ast.Is, ast.IsNot)) for sign in node.ops):
                sides = [node.left] + node.comparators
                self.assertTrue(any(isinstance(side, ast.Constant) and side.value in (None, True, False)
                                    for side in sides), place)

    def test_sets_are_not_kept(self):
        for name, tree in self.trees.items():
            parents = parents_of(tree)
            for node in ast.walk(tree):
                if is_call_of(node, ["set", "frozenset"]):
                    self.assertTrue(set_stands_well(node, parents), f"{name}:{node.lineno}")

    def test_imports_are_the_packages_own_at_the_top_and_in_no_circle(self):
        drawn = {}
        for name, tree in self.trees.items():
            rows = [node for node in ast.walk(tree) if isinstance(node, (ast.Import, ast.ImportFrom))]
            drawn[name] = []
            for row in rows:
                self.assertIn(row, tree.body, name)
                self.assertIsInstance(row, ast.ImportFrom, name)
                self.assertEqual(row.level, 0, name)
                source = row.module.removeprefix("primer.") + ".py"
                self.assertIn(source, self.trees, name)
                tops = [part.name for part in self.trees[source].body if hasattr(part, "name")]
                tops += [target.id for part in self.trees[source].body if isinstance(part, ast.Assign)
                         for target in part.targets]
                for alias in row.names:
                    self.assertIn(alias.name, tops, name)
                drawn[name].append(source)
        while drawn:
            free = [name for name in drawn if not any(source in drawn for source in drawn[name])]
            self.assertNotEqual(free, [], "files that draw from one another")
            for name in free:
                drawn.pop(name)


if __name__ == "__main__":
    unittest.main()
