"""The form of the package's files: the interface as it is listed, and the rules that a look at the code can check."""

import ast
import builtins
import pathlib
import unittest

FOLDER = pathlib.Path(__file__).resolve().parent.parent / "knownends"

# What the interface lists: each function with its arguments.
INTERFACE = {
    "streams": {"is_name": ["thing"], "is_tree": ["thing"], "are_counts": ["thing"], "counts_of": ["tree"]},
    "texts": {
        "packed": ["thing"], "sealed": ["thing"], "unpacked": ["text"], "unsealed": ["text"], "check": ["text"],
    },
    "disks": {
        "lines": ["text"], "rest": ["text"], "standing": ["disk"], "opened": ["disk"],
        "noted": ["disk", "item", "most"], "kept": ["disk", "items", "most"],
    },
    "sketches": {
        "is_sketch": ["thing"], "bare": ["room"], "fed": ["sketch", "name"], "fed_many": ["sketch", "name", "times"],
        "poured": ["one", "other"], "sketch_of": ["room", "tree"],
    },
    "truths": {
        "is_truth": ["sketch", "thing"], "paper": ["sketch", "truth"], "is_paper": ["sketch", "truth", "thing"],
    },
    "questions": {
        "is_question": ["thing"], "value": ["counts", "question"], "ends": ["sketch", "question"],
        "end_truths": ["sketch", "question"], "is_end_truths": ["sketch", "question", "thing"],
        "surely_above": ["sketch", "most"], "perhaps_above": ["sketch", "most"], "surely_first": ["sketch"],
        "perhaps_first": ["sketch"],
    },
    "joins": {
        "joined": ["counts", "others"], "join": ["one", "other"], "join_truths": ["one", "other"],
        "is_join_truths": ["one", "other", "thing"], "same": ["one", "other"],
    },
    "rooms": {
        # The document calls the second argument of room_for open, a name that the rules bar.
        "most_off": ["room", "many"], "room_for": ["many", "most"], "worst": ["room", "many"],
        "widest": ["room", "many", "question"],
    },
    "foes": {"play": ["maker", "room", "many"], "is_verdict": ["maker", "room", "many", "thing"]},
    "spaces": {"is_space": ["thing"], "bare_space": ["room"], "fed_space": ["space", "name"], "from_space": ["space"]},
    "rings": {"sum_ends": ["sketches", "name"]},
    "ranks": {
        "is_ranks": ["thing"], "bare_ranks": ["room"], "thinned": ["room", "many", "marks"],
        "ranks_of": ["room", "numbers"], "poured_ranks": ["one", "other"], "ranks_tree": ["room", "tree"],
        "ends_at": ["ranks", "place"], "openness": ["ranks"], "item_ends": ["ranks", "index"],
        "rank_at": ["tree", "place"],
    },
    "turning": {"turned_tree": ["room", "tree", "place", "side"]},
    "books": {"is_book": ["thing"], "joined_books": ["one", "other"], "whole": ["room", "book"]},
    "sheets": {"question_text": ["question"], "read_question": ["text"], "run_sheet": ["text"]},
    "days": {"day": ["net"], "relived": ["text"]},
}

# The classes of the interface: each method that is listed, with its arguments behind self.
CLASSES = {
    "disks": {
        "Disk": {
            "__init__": [], "area": ["k"], "append": ["k", "text", "most"], "clear": ["k"], "shorten": ["k", "many"],
            "copy": [], "__eq__": ["other"],
        },
    },
    "rings": {
        "Ring": {
            "__init__": ["room", "size", "blocks"], "feed": ["name"], "many": [], "last": ["j"], "now": [], "copy": [],
        },
    },
    "net": {
        "Net": {
            "__init__": ["room", "sources", "collectors"], "event": ["event"], "bag": [], "events": [], "beginning": [],
            "source": ["s"], "book": ["c"], "names_of": ["s"], "up": [], "copy": [], "gather": ["most"],
        },
    },
}

LIBRARY = {"heapq", "math", "itertools", "collections"}
BUILTINS = set(
    "len range enumerate zip min max sum abs sorted reversed int str bool list tuple dict set isinstance ord repr any "
    "all divmod pow iter next ValueError KeyError IndexError ZeroDivisionError NotImplemented StopIteration".split()
)
METHODS = set(
    "append clear copy count endswith extend find get index insert isalnum isalpha isdigit islower isspace isupper "
    "items join keys ljust lower lstrip partition pop remove replace reverse rfind rjust rpartition rsplit rstrip "
    "setdefault split splitlines startswith strip update upper values zfill bit_length add discard sort".split()
)
BARRED = set("register mro elements open input law version_info type typing enum eval exec globals locals vars".split())


def trees():
    """Each file of the package with its syntax tree."""
    return [(path, ast.parse(path.read_text(encoding="utf-8"))) for path in sorted(FOLDER.glob("**/*.py"))]


def bound_names(tree):
    """Every name that a file gives a meaning: functions, classes, parameters, variables, imports."""
    for node in ast.walk(tree):
        if isinstance(node, (ast.FunctionDef, ast.ClassDef)):
            yield node.name
        elif isinstance(node, ast.arg):
            yield node.arg
        elif isinstance(node, ast.Name) and not isinstance(node.ctx, ast.Load):
            yield node.id
        elif isinstance(node, ast.alias):
            yield node.asname or node.name


class TestInterface(unittest.TestCase):
    def test_each_function_stands_in_its_file_with_its_arguments(self):
        for module, functions in INTERFACE.items():
            tree = ast.parse((FOLDER / f"{module}.py").read_text(encoding="utf-8"))
            defined = {node.name: node.args for node in tree.body if isinstance(node, ast.FunctionDef)}
            for name, arguments in functions.items():
                with self.subTest(name):
                    self.assertEqual([argument.arg for argument in defined[name].args], arguments)

    def test_each_method_stands_in_its_class_with_its_arguments(self):
        for module, classes in CLASSES.items():
            tree = ast.parse((FOLDER / f"{module}.py").read_text(encoding="utf-8"))
            found = {node.name: node.body for node in tree.body if isinstance(node, ast.ClassDef)}
            for word, methods in classes.items():
                defined = {node.name: node.args for node in found[word] if isinstance(node, ast.FunctionDef)}
                for name, arguments in methods.items():
                    with self.subTest(name):
                        self.assertEqual([argument.arg for argument in defined[name].args], ["self", *arguments])


class TestForm(unittest.TestCase):
    def test_files(self):
        names = [path.name for path in FOLDER.iterdir() if path.name != "__pycache__"]
        self.assertIn("__init__.py", names)
        for name in names:
            self.assertRegex(name, r"^[a-z0-9_]+\.py$")

    def test_sizes_and_signs(self):
        for path, tree in trees():
            text = path.read_text(encoding="utf-8")
            self.assertRegex(text, r"^[\n -~]*\Z", path.name)
            self.assertLess(len(text.split("\n")), 400, path.name)
            self.assertLessEqual(max(len(line) for line in text.split("\n")), 120, path.name)
            for node in ast.walk(tree):
                if isinstance(node, ast.FunctionDef):
                    self.assertLessEqual(node.end_lineno - node.lineno + 1, 40, node.name)

    def test_module_level(self):
        for path, tree in trees():
            for node in tree.body[1:] if ast.get_docstring(tree) else tree.body:
                self.assertIsInstance(node, (ast.ImportFrom, ast.FunctionDef, ast.ClassDef, ast.Assign), path.name)
                if isinstance(node, ast.Assign):
                    self.assertEqual([type(target) for target in node.targets], [ast.Name], path.name)

    def test_imports_name_the_very_file(self):
        defined = {}
        for path, tree in trees():
            words = {getattr(node, "name", None) for node in tree.body}
            words |= {node.targets[0].id for node in tree.body if isinstance(node, ast.Assign)}
            defined["knownends." + path.stem] = words
        for path, tree in trees():
            for node in ast.walk(tree):
                self.assertNotIsInstance(node, ast.Import, path.name)
                if isinstance(node, ast.ImportFrom) and node.module not in LIBRARY:
                    for alias in node.names:
                        self.assertIn(alias.name, defined[node.module], path.name)

    def test_no_two_files_import_from_each_other(self):
        ahead = {}
        for path, tree in trees():
            imports = [node.module for node in ast.walk(tree) if isinstance(node, ast.ImportFrom)]
            ahead["knownends." + path.stem] = set(imports)
        while ahead:
            free = [name for name in ahead if not ahead[name] & set(ahead)]
            self.assertTrue(free, sorted(ahead))
            for name in free:
                del ahead[name]

    def test_names(self):
        known = set(dir(builtins))
        for path, tree in trees():
            bound = list(bound_names(tree))
            for name in bound:
                self.assertNotIn(name, known, path.name)
                self.assertNotIn(name, BARRED, path.name)
                self.assertTrue(not name.startswith("__") or name.endswith("__"), path.name)
            for node in ast.walk(tree):
                if isinstance(node, ast.Name) and node.id in known and node.id not in bound:
                    self.assertIn(node.id, BUILTINS, path.name)

    def test_methods(self):
        own = {name for _, tree in trees() for name in bound_names(tree)}
        for path, tree in trees():
            for node in ast.walk(tree):
                if isinstance(node, ast.Call) and isinstance(node.func, ast.Attribute):
                    self.assertIn(node.func.attr, METHODS | own, path.name)

    def test_no_name_hides_an_import_or_a_class(self):
        for path, tree in trees():
            taken = {alias.name for node in tree.body if isinstance(node, ast.ImportFrom) for alias in node.names}
            taken |= {node.name for node in tree.body if isinstance(node, ast.ClassDef)}
            for node in ast.walk(tree):
                if isinstance(node, ast.arg):
                    self.assertNotIn(node.arg, taken, path.name)
                if isinstance(node, ast.Name) and not isinstance(node.ctx, ast.Load):
                    self.assertNotIn(node.id, taken, path.name)

    def test_each_import_is_used(self):
        for path, tree in trees():
            used = {node.id for node in ast.walk(tree) if isinstance(node, ast.Name)}
            for node in tree.body:
                if isinstance(node, ast.ImportFrom):
                    for alias in node.names:
                        self.assertIn(alias.name, used, path.name)

    def test_what_is_compared_by_is(self):
        for path, tree in trees():
            for node in ast.walk(tree):
                if isinstance(node, ast.Compare):
                    for sign, side in zip(node.ops, node.comparators):
                        if isinstance(sign, (ast.Is, ast.IsNot)):
                            self.assertIsInstance(side, ast.Constant, path.name)
                            self.assertIn(repr(side.value), ("None", "True", "False"), path.name)

    def test_sets_stand_only_in_sorted_len_and_comparisons(self):
        for path, tree in trees():
            inside = [
                argument for node in ast.walk(tree) if isinstance(node, ast.Call) and isinstance(node.func, ast.Name)
                and node.func.id in ("sorted", "len") for argument in node.args
            ]
            for node in ast.walk(tree):
                called = isinstance(node, ast.Call) and isinstance(node.func, ast.Name) and node.func.id == "set"
                if called or isinstance(node, (ast.Set, ast.SetComp)):
                    self.assertIn(node, inside, path.name)

    def test_errors_that_are_caught(self):
        for path, tree in trees():
            for node in ast.walk(tree):
                if isinstance(node, ast.ExceptHandler):
                    for kind in node.type.elts if isinstance(node.type, ast.Tuple) else [node.type]:
                        self.assertIn(kind.id, {"BadText", "NoThing", "NoEvent", "NoRoom", "NoNumber"}, path.name)
                if isinstance(node, ast.Raise):
                    self.assertIsInstance(node.exc, ast.Call, path.name)

    def test_no_attribute_has_the_name_of_a_method(self):
        methods, attributes = set(), set()
        for _, tree in trees():
            for node in ast.walk(tree):
                if isinstance(node, ast.ClassDef):
                    methods |= {part.name for part in node.body if isinstance(part, ast.FunctionDef)}
                if isinstance(node, ast.Attribute) and isinstance(node.ctx, ast.Store):
                    attributes.add(node.attr)
        self.assertEqual(methods & attributes, set())
        self.assertEqual(attributes & METHODS, set())

    def test_values_and_statements(self):
        barred = (ast.Div, ast.Global, ast.AsyncFunctionDef, ast.Await, ast.AnnAssign, ast.MatMult, ast.GeneratorExp)
        for path, tree in trees():
            for node in ast.walk(tree):
                self.assertNotIsInstance(node, barred, path.name)
                if isinstance(node, ast.Constant):
                    self.assertNotIsInstance(node.value, (float, complex, bytes), path.name)
                    self.assertNotIn("%", str(node.value), path.name)
                if isinstance(node, ast.BinOp) and isinstance(node.op, ast.Pow):
                    self.assertIsInstance(node.right, ast.Constant, path.name)


if __name__ == "__main__":
    unittest.main()
