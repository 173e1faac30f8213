"""The package keeps to the language rules, as far as a short look at its code can tell.

This is no full check of the rules: it looks for slips that are easily made.
"""

import ast
import builtins
import io
import os
import re
import tokenize
import unittest

FOLDER = os.path.join(os.path.dirname(os.path.dirname(os.path.abspath(__file__))), "cutlinked")

INTERFACE = {
    "errors.py": ["ForestError", "BadForest", "NoHouse", "NoDeed", "BadDeeds", "NoNumber", "NoAsk", "NoShape",
                  "NoTurn", "BadAccount", "NoMoment", "NoWeight", "Full", "BadHistory", "NoParcel", "NoRow",
                  "BadRow", "NoCut", "NoBlocks", "NoDisk", "OtherForest", "NoThing", "BadThing", "BadText",
                  "NothingDone", "NoLine", "NoName"],
    "forests.py": ["Forest", "many", "root", "depth", "below", "way", "common"],
    "deeds.py": ["is_deed", "behind", "led"],
    "asks.py": ["is_ask", "answer"],
    "shapes.py": ["is_shape", "rows", "told_forest", "resting", "rank", "weights", "potential", "handed_on",
                  "turned_up"],
    "reaching.py": ["reached", "is_paper"],
    "kepts.py": ["Kept", "kept_of"],
    "accounts.py": ["Account", "first_wrong", "standing_at", "cost_of"],
    "roads.py": ["Roads"],
    "histories.py": ["History", "lives", "answers_of", "parts_of", "kept_then", "joined_till"],
    "parcels.py": ["row_of", "sealed", "parcel_of", "is_parcel", "mark", "unsealed"],
    "disks.py": ["Disk", "kept_parcels"],
    "savings.py": ["SavedKept"],
    "texts.py": ["written", "forest_text", "deeds_text", "account_text", "read_thing", "read_forest", "read_deeds",
                 "read_account"],
    "films.py": ["Reel"],
    "pictures.py": ["drawn_forest", "drawn_shape", "drawn_weights"],
    "desks.py": ["Desk"],
}

METHODS_DUE = {
    "Kept": ["deed", "ask", "shape", "forest", "papers", "links", "spent", "bound", "copy"],
    "Disk": ["write", "sync", "synced", "blocks", "cut", "drop", "copy"],
    "SavedKept": ["deed", "ask", "shape", "forest", "papers", "links", "spent", "bound", "copy", "keep", "moved"],
    "Reel": ["stands", "spent_now", "worked", "forest_now", "shape_now", "kept", "seek", "copy"],
    "Desk": ["tell"],
    "Roads": ["come", "heaviest", "ties", "kept", "whole", "spent", "bound", "joined", "copy"],
}

BUILTINS = """len range enumerate zip min max sum abs sorted reversed int str bool bytes list tuple dict set
    frozenset isinstance ord repr any all divmod map iter next Exception ValueError TypeError KeyError IndexError
    LookupError ZeroDivisionError ArithmeticError OverflowError RuntimeError NotImplementedError AttributeError
    StopIteration NotImplemented super""".split()

METHODS = """append clear copy count endswith extend find get index insert isalnum isalpha isdigit islower isspace
    isupper items join keys ljust lower lstrip partition pop remove replace reverse rfind rjust rpartition rsplit
    rstrip setdefault split splitlines startswith strip update upper values zfill bit_length add discard
    encode""".split()

BARRED_WORDS = """type typing typing_extensions enum Enum IntEnum StrEnum Flag IntFlag Generic Protocol ABC ABCMeta
    namedtuple NamedTuple TypedDict TYPE_CHECKING abstractmethod dataclass overload contextmanager""".split()

BARRED_NAMES = """register mro elements open input law version_info attrgetter breakpoint compile copyright credits
    delattr dir eval exec exit gc getattr globals hasattr help id importlib license locals methodcaller os quit
    setattr vars sys""".split()

DOUBLE_UNDERSCORE = """__init__ __eq__ __repr__ __str__ __len__""".split()


def read_files():
    """The text of each file of the package, by its name."""
    texts = {}
    for name in sorted(os.listdir(FOLDER)):
        if name != "__pycache__":
            with open(os.path.join(FOLDER, name), encoding="utf-8") as file:
                texts[name] = file.read()
    return texts


TEXTS = read_files()
TREES = {name: ast.parse(text) for name, text in TEXTS.items()}


def nodes(kinds):
    """Each node of these kinds, with where it stands."""
    for name, tree in TREES.items():
        for node in ast.walk(tree):
            if isinstance(node, kinds):
                yield f"{name}:{getattr(node, 'lineno', 0)}", node


def defined(tree):
    """The functions and classes that a file defines at module level."""
    return [node.name for node in tree.body if isinstance(node, (ast.FunctionDef, ast.ClassDef))]


def nameable(tree):
    """The names that another file may import."""
    values = [target.id for node in tree.body if isinstance(node, ast.Assign) for target in node.targets]
    return defined(tree) + values


def bound_inside(function):
    """The names that a function binds: parameters, variables, nested functions."""
    found = [arg.arg for arg in ast.walk(function) if isinstance(arg, ast.arg)]
    found += [node.id for node in ast.walk(function) if isinstance(node, ast.Name) and isinstance(node.ctx, ast.Store)]
    return found + [node.name for node in ast.walk(function) if isinstance(node, ast.FunctionDef) and node != function]


class TestFiles(unittest.TestCase):
    def test_names_and_characters(self):
        for name, text in TEXTS.items():
            self.assertRegex(name, r"\A(__init__|[a-z][a-z0-9_]*)\.py\Z")
            self.assertRegex(text, r"\A[ -~\n]*\Z", name)
            self.assertLessEqual(len(text.splitlines()), 399, name)
            for at, line in enumerate(text.splitlines(), 1):
                self.assertLessEqual(len(line), 120, f"{name}:{at}")

    def test_functions_are_short(self):
        for where, node in nodes(ast.FunctionDef):
            self.assertLessEqual(node.end_lineno - node.lineno + 1, 40, where)

    def test_interface_stands_in_its_files(self):
        for name, due in INTERFACE.items():
            self.assertEqual([word for word in due if word not in defined(TREES[name])], [], name)

    def test_methods_stand_in_their_classes(self):
        found = {node.name: [part.name for part in node.body if isinstance(part, ast.FunctionDef)]
                 for _, node in nodes(ast.ClassDef)}
        for name, due in METHODS_DUE.items():
            self.assertEqual([word for word in due if word not in found[name]], [], name)

    def test_imports(self):
        for name, tree in TREES.items():
            for node in tree.body:
                if isinstance(node, ast.ImportFrom):
                    self.assertEqual(node.level, 0, name)
                    home = re.fullmatch(r"cutlinked\.([a-z0-9_]+)", node.module)
                    self.assertIsNotNone(home, name)
                    for item in node.names:
                        self.assertIn(item.name, nameable(TREES[home.group(1) + ".py"]), name)
                        self.assertIsNone(item.asname, name)
        self.assertEqual([where for where, _ in nodes(ast.Import)], [])
        inner = [node for tree in TREES.values() for part in tree.body for node in ast.walk(part)
                 if isinstance(node, ast.ImportFrom) and node is not part]
        self.assertEqual(inner, [])

    def test_no_two_files_import_from_each_other(self):
        needs = {name: {node.module.split(".")[-1] + ".py" for node in tree.body if isinstance(node, ast.ImportFrom)}
                 for name, tree in TREES.items()}
        while needs:
            free = [name for name, others in needs.items() if not others & set(needs)]
            self.assertNotEqual(free, [], sorted(needs))
            for name in free:
                del needs[name]


class TestCode(unittest.TestCase):
    def test_no_words_that_are_barred(self):
        for name, text in TEXTS.items():
            docs = {node.value.lineno for node in ast.walk(TREES[name])
                    if isinstance(node, ast.Expr) and isinstance(node.value, ast.Constant)}
            for token in tokenize.generate_tokens(io.StringIO(text).readline):
                if token.type == tokenize.COMMENT or token.start[0] in docs:
                    continue
                where = f"{name}:{token.start[0]}"
                self.assertEqual([word for word in re.findall(r"\w+", token.string) if word in BARRED_WORDS], [], where)
                if token.type == tokenize.NAME:
                    self.assertNotIn(token.string, BARRED_NAMES, where)
                if token.type == tokenize.STRING:
                    self.assertNotIn("%", token.string, where)

    def test_no_statements_and_expressions_that_are_barred(self):
        barred = (ast.Global, ast.AsyncFunctionDef, ast.AsyncFor, ast.AsyncWith, ast.Await, ast.Div)
        self.assertEqual([where for where, _ in nodes(barred)], [])
        for where, node in nodes(ast.Constant):
            self.assertNotIsInstance(node.value, (float, complex), where)
        for where, node in nodes((ast.FunctionDef, ast.ClassDef)):
            self.assertEqual(node.decorator_list, [], where)

    def test_is_only_with_none_true_false(self):
        for where, node in nodes(ast.Compare):
            sides = [node.left] + node.comparators
            for at, sign in enumerate(node.ops):
                if isinstance(sign, (ast.Is, ast.IsNot)):
                    self.assertIsInstance(sides[at + 1], ast.Constant, where)
                    self.assertTrue(sides[at + 1].value in (None, True, False), where)

    def test_super_is_asked_for_a_method_at_once(self):
        text = "".join(TEXTS.values())
        self.assertEqual(len(re.findall(r"\bsuper\b", text)), len(re.findall(r"\bsuper\(\)\.\w+\(", text)))

    def test_exponents_are_literal(self):
        for where, node in nodes(ast.BinOp):
            if isinstance(node.op, ast.Pow):
                self.assertIsInstance(node.right, ast.Constant, where)
                self.assertIn(node.right.value, range(65), where)

    def test_tables_are_not_passed_on(self):
        for name, tree in TREES.items():
            tables = [node.targets[0].id for node in tree.body if isinstance(node, ast.Assign)
                      and isinstance(node.value, (ast.List, ast.Dict))]
            used = [part for node in ast.walk(tree) for part in ast.iter_child_nodes(node)
                    if isinstance(part, ast.Name) and part.id in tables
                    and not isinstance(node, (ast.Assign, ast.Compare, ast.Subscript, ast.Attribute))]
            self.assertEqual([part.lineno for part in used], [], name)

    def test_no_generator_expression_where_a_class_has_its_own_equality(self):
        for where, node in nodes(ast.Call):
            if isinstance(node.func, ast.Name) and node.func.id in ("any", "all", "min", "max", "sum", "sorted"):
                self.assertNotIsInstance(node.args[0], ast.GeneratorExp, where)

    def test_builtins_and_names(self):
        for where, node in nodes(ast.Name):
            if hasattr(builtins, node.id):
                self.assertIn(node.id, BUILTINS, where)
                self.assertIsInstance(node.ctx, ast.Load, where)
        for where, node in nodes(ast.arg):
            self.assertFalse(hasattr(builtins, node.arg), where)

    def test_methods(self):
        own = [node.name for _, node in nodes(ast.FunctionDef)]
        for where, node in nodes(ast.Call):
            if isinstance(node.func, ast.Attribute):
                self.assertIn(node.func.attr, METHODS + own, where)
        for where, node in nodes(ast.ClassDef):
            for method in node.body:
                if isinstance(method, ast.FunctionDef) and method.name.startswith("__"):
                    self.assertIn(method.name, DOUBLE_UNDERSCORE, where)

    def test_attributes_are_assigned_through_a_local_name(self):
        for where, node in nodes(ast.Attribute):
            if isinstance(node.ctx, ast.Store):
                self.assertIsInstance(node.value, ast.Name, where)

    def test_no_name_is_a_method_and_an_attribute(self):
        for where, node in nodes(ast.ClassDef):
            methods = [part.name for part in node.body if isinstance(part, ast.FunctionDef)]
            stored = [part.attr for part in ast.walk(node) if isinstance(part, ast.Attribute)
                      and isinstance(part.ctx, ast.Store)]
            self.assertEqual([name for name in stored if name in methods], [], where)

    def test_no_local_name_of_a_class_or_an_import(self):
        for name, tree in TREES.items():
            taken = [node.name for node in tree.body if isinstance(node, ast.ClassDef)]
            taken += [item.name for node in tree.body if isinstance(node, ast.ImportFrom) for item in node.names]
            for function in [node for node in ast.walk(tree) if isinstance(node, ast.FunctionDef)]:
                self.assertEqual([word for word in bound_inside(function) if word in taken], [], name)

    def test_module_level_holds_no_code(self):
        for name, tree in TREES.items():
            for place, node in enumerate(tree.body):
                if place == 0 and isinstance(node, ast.Expr):
                    self.assertIsInstance(node.value.value, str, name)
                    continue
                self.assertIsInstance(node, (ast.ImportFrom, ast.FunctionDef, ast.ClassDef, ast.Assign), name)


if __name__ == "__main__":
    unittest.main()
