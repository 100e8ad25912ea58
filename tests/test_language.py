"""Checks of the package's own form: the rules of LANGUAGE.md that can be read off a file."""

import ast
import builtins
import os
import re
import unittest

import weandthey

FOLDER = os.path.dirname(os.path.abspath(weandthey.__file__))
FILES = sorted(name for name in os.listdir(FOLDER) if name != "__pycache__")

INTERFACE = {
    "errors.py": [
        "PlayError", "BadText", "BadProgram", "BadGift", "BadNumber", "BadTurns", "BadRows", "NotParted",
        "NotTheirs", "IsGiven", "NotGiven", "NoGift", "Lost", "Busy", "TooManyEdits", "NothingToUndo",
        "NothingToRedo", "BadEdits", "BadEdit", "Rejected", "NoPlace", "NoVersion",
    ],
    "programs.py": ["program_error", "each_statement", "statement_at", "weight", "turned"],
    "runs.py": ["run", "each_run"],
    "worths.py": ["worth", "plan_of", "plan_holds"],
    "lines.py": ["Lines"],
    "tables.py": ["worth_of", "worth_holds"],
    "verdicts.py": ["lost", "alike", "above"],
    "papers.py": ["paper_of", "paper_holds"],
    "gifts.py": ["gifted", "fewest_gift"],
    "texts.py": ["program_text", "parse_program"],
    "benches.py": ["Bench", "WonBench"],
    "consoles.py": ["Console"],
}
METHODS = {
    "Lines": [
        "__init__", "__call__", "__add__", "__sub__", "__neg__", "__mul__", "__and__", "__or__", "__eq__",
        "moved", "under", "first_unlike", "first_above", "top", "bottom", "count_from",
    ],
    "Bench": [
        "__init__", "__getitem__", "__setitem__", "__iter__", "__iadd__", "__isub__", "add", "drop", "change", "give", "take",
        "give_fewest", "undo", "redo", "attempt", "verdict", "outcome", "told", "state", "edits", "__len__", "__str__", "__eq__",
    ],
    "Console": ["__init__", "execute"],
}

BUILTINS = set(
    "len range enumerate zip min max sum abs sorted reversed int str bool bytes list tuple dict set isinstance ord"
    " repr any all divmod iter next super property staticmethod classmethod Exception ValueError TypeError KeyError"
    " IndexError LookupError ZeroDivisionError ArithmeticError OverflowError RuntimeError NotImplementedError"
    " AttributeError StopIteration NotImplemented".split()
)
BARRED_NAMES = set(
    "register mro elements open input law version_info with_traceback add_note attrgetter breakpoint builtins compile"
    " copyright credits delattr dir eval exec exit gc getattr globals hasattr help id importlib license locals"
    " methodcaller os quit setattr type vars sys".split()
)
BARRED_WORDS = set(
    "type typing typing_extensions enum Enum IntEnum StrEnum Flag IntFlag Generic Protocol ABC ABCMeta namedtuple"
    " NamedTuple TypedDict TYPE_CHECKING abstractmethod".split()
)
NOT_ALLOWED = (ast.Global, ast.AsyncFunctionDef, ast.AsyncFor, ast.AsyncWith, ast.Await, ast.Import, ast.Div)
TAKE_LISTS = ("sum", "min", "max", "sorted", "any", "all")
CHANGING_METHODS = ("__init__", "__call__", "__iadd__", "__isub__", "__setitem__")
CHANGING = ("append", "clear", "extend", "insert", "pop", "remove", "reverse", "setdefault", "update", "add", "discard")


def text_of(name):
    with open(os.path.join(FOLDER, name), encoding="utf-8", newline="") as file:
        return file.read()


TREES = [ast.parse(text_of(name), name) for name in FILES if name.endswith(".py")]


def bound_names(tree):
    """Yield every name that a file gives to something."""
    for node in ast.walk(tree):
        if isinstance(node, (ast.FunctionDef, ast.ClassDef)):
            yield node.name
        elif isinstance(node, ast.arg):
            yield node.arg
        elif isinstance(node, ast.Name) and isinstance(node.ctx, ast.Store):
            yield node.id
        elif isinstance(node, ast.alias):
            yield node.asname or node.name


def functions():
    """Return a dict of the lists of all functions and methods of the package, by name."""
    found = {}
    for tree in TREES:
        for node in ast.walk(tree):
            if isinstance(node, ast.FunctionDef):
                found.setdefault(node.name, []).append(node)
    return found


def local_names(function):
    """Return the set of the names that a function gives to something of its own."""
    found = {node.arg for node in ast.walk(function) if isinstance(node, ast.arg)}
    return found | {node.id for node in ast.walk(function) if isinstance(node, ast.Name) and isinstance(node.ctx, ast.Store)}


def names_used(function):
    """Yield the names of all functions, methods and classes that a function may call."""
    own = local_names(function)
    # A class that is only asked for by isinstance is not called.
    asked = [node.args[1] for node in ast.walk(function) if isinstance(node, ast.Call) and getattr(node.func, "id", "") == "isinstance"]
    for node in ast.walk(function):
        if isinstance(node, ast.Name) and node.id not in own and node not in asked:
            yield node.id
        elif isinstance(node, ast.Attribute):
            yield node.attr


def called_by_operators():
    """Return the list of the operators that change nothing, of __eq__ and the like, and of all that they call."""
    by_name = functions()
    # An operator may create an object; what its __init__ calls counts, but it sets its own attributes.
    for tree in TREES:
        for node in tree.body:
            if isinstance(node, ast.ClassDef):
                by_name[node.name] = [part for part in node.body if isinstance(part, ast.FunctionDef) and part.name == "__init__"]
    waiting = [name for name in by_name if re.fullmatch("__[a-z]+__", name) and name not in CHANGING_METHODS]
    seen = set(waiting)
    while waiting:
        for function in by_name[waiting.pop()]:
            for name in names_used(function):
                if name in by_name and name not in seen:
                    seen.add(name)
                    waiting.append(name)
    return [function for name in sorted(seen) for function in by_name[name] if function.name != "__init__"]


def made_here(function):
    """Return the names of the lists that a function creates."""
    found = set()
    for node in ast.walk(function):
        if isinstance(node, ast.Assign) and isinstance(node.value, (ast.List, ast.ListComp)):
            found.update(target.id for target in node.targets if isinstance(target, ast.Name))
    return found


class TestLanguage(unittest.TestCase):
    def test_files(self):
        for name in FILES:
            self.assertRegex(name, r"^[a-z_][a-z0-9_]*\.py$")
        self.assertIn("__init__.py", FILES)

    def test_characters_and_sizes(self):
        for name in FILES:
            with self.subTest(name):
                text = text_of(name)
                self.assertRegex(text, r"\A[ -~\n]*\Z")
                self.assertLess(len(text.splitlines()), 400)
                self.assertLessEqual(max(len(line) for line in text.splitlines()), 120)
                self.assertFalse(BARRED_WORDS & set(re.findall(r"\w+", text)))
                self.assertIsNone(re.search("dataclass|overload|contextmanager", text))

    def test_functions_are_short(self):
        for tree in TREES:
            for node in ast.walk(tree):
                if isinstance(node, ast.FunctionDef):
                    self.assertLessEqual(node.end_lineno - node.lineno + 1, 40, node.name)

    def test_interface_is_defined_in_its_file(self):
        for name, wanted in INTERFACE.items():
            tree = ast.parse(text_of(name))
            defined = [node.name for node in tree.body if isinstance(node, (ast.FunctionDef, ast.ClassDef))]
            self.assertEqual([word for word in wanted if word not in defined], [])

    def test_methods_of_the_interface_stand_in_their_class(self):
        classes = {node.name: node for tree in TREES for node in tree.body if isinstance(node, ast.ClassDef)}
        for name, wanted in METHODS.items():
            defined = [node.name for node in classes[name].body if isinstance(node, ast.FunctionDef)]
            self.assertEqual([word for word in wanted if word not in defined], [])
            self.assertEqual(len(defined), len(set(defined)))

    def test_no_name_is_a_method_and_an_attribute(self):
        methods, attributes = set(), set()
        for tree in TREES:
            for node in ast.walk(tree):
                if isinstance(node, ast.ClassDef):
                    methods.update(part.name for part in node.body if isinstance(part, ast.FunctionDef))
                if isinstance(node, ast.Attribute) and isinstance(node.ctx, ast.Store):
                    attributes.add(node.attr)
        self.assertEqual(methods & attributes, set())

    def test_operators_change_nothing(self):
        for function in called_by_operators():
            own = made_here(function)
            parameters = {node.arg for node in ast.walk(function.args) if isinstance(node, ast.arg)}
            for node in ast.walk(function):
                where = (function.name, getattr(node, "lineno", None))
                self.assertNotIsInstance(node, (ast.AugAssign, ast.Delete), where)
                if isinstance(node, (ast.Attribute, ast.Subscript)) and isinstance(node.ctx, ast.Store):
                    self.assertIsInstance(node, ast.Subscript, where)
                    self.assertIn(node.value.id, own, where)
                if isinstance(node, ast.Call) and isinstance(node.func, ast.Attribute) and node.func.attr in CHANGING:
                    self.assertIn(node.func.value.id, own, where)
                if isinstance(node, ast.Call) and isinstance(node.func, ast.Name):
                    self.assertNotIn(node.func.id, parameters, where)

    def test_eq_assigns_nothing(self):
        for function in functions().get("__eq__", []):
            self.assertEqual([type(node) for node in function.body], [ast.Return])

    def test_module_level(self):
        for tree in TREES:
            names = []
            for at, node in enumerate(tree.body):
                if isinstance(node, ast.Expr):
                    self.assertEqual(at, 0)
                    self.assertIsInstance(node.value, ast.Constant)
                elif isinstance(node, ast.Assign):
                    names += [target.id for target in node.targets]
                    self.assertEqual(len(node.targets), 1)
                elif isinstance(node, ast.ImportFrom):
                    names += [alias.name for alias in node.names]
                else:
                    self.assertIsInstance(node, (ast.FunctionDef, ast.ClassDef))
                    names.append(node.name)
            self.assertEqual(len(names), len(set(names)))

    def test_imports(self):
        for tree in TREES:
            for node in ast.walk(tree):
                if not isinstance(node, ast.ImportFrom):
                    continue
                self.assertEqual(node.level, 0)
                package, _, module = node.module.partition(".")
                self.assertEqual(package, "weandthey")
                defined = list(bound_names(ast.parse(text_of(module + ".py"))))
                for alias in node.names:
                    self.assertIn(alias.name, defined)

    def test_names(self):
        for tree in TREES:
            for name in bound_names(tree):
                self.assertNotIn(name, BARRED_NAMES)
                if not re.fullmatch("__[a-z]+__", name):
                    self.assertFalse(name.startswith("_"), name)
                    self.assertFalse(hasattr(builtins, name), name)

    def test_builtins(self):
        for tree in TREES:
            for node in ast.walk(tree):
                if isinstance(node, ast.Name) and hasattr(builtins, node.id):
                    self.assertIn(node.id, BUILTINS)

    def test_statements_and_expressions(self):
        for tree in TREES:
            for node in ast.walk(tree):
                self.assertNotIsInstance(node, NOT_ALLOWED)
                if isinstance(node, ast.Constant):
                    self.assertNotIsInstance(node.value, (float, complex))
                if isinstance(node, ast.Constant) and isinstance(node.value, str):
                    self.assertNotIn("%", node.value)
                if isinstance(node, ast.Attribute):
                    self.assertNotIn(node.attr, ("sort", "format", "args"))
                if isinstance(node, ast.Compare):
                    for sign, side in zip(node.ops, node.comparators):
                        if isinstance(sign, (ast.Is, ast.IsNot)):
                            self.assertIsInstance(side, ast.Constant)
                            self.assertIn(side.value, (None, True, False))
                if isinstance(node, ast.Call) and isinstance(node.func, ast.Name) and node.func.id in TAKE_LISTS:
                    self.assertNotIsInstance(node.args[0], ast.GeneratorExp)


if __name__ == "__main__":
    unittest.main()
