"""Tests of the interface's names and of the rules for the package's files
that a look at the code can decide."""

import ast
import pathlib
import re
import unittest

PACKAGE = pathlib.Path(__file__).resolve().parent.parent / "turnshelves"

# For each file: its functions with their parameters, and its classes with
# their base class and methods.
FUNCTIONS = {
    "values": {"value_key": "value", "row_key": "row", "key_of": "item", "key_order": "key"},
    "states": {"between": "first, second"},
    "questions": {"check": "state, body", "answer": "state, body", "calls": "state, body", "meets": "call, row"},
    "statements": {"say": "state, statement", "statement_calls": "state, statement"},
    "codes": {
        "write_number": "number", "write_integer": "number", "write_string": "text", "write_value": "value",
        "write_row": "row", "write_item": "item", "write_change": "change", "write_changes": "changes",
        "write_image": "commits, state",
    },
    "shapes": {
        "pack": "rows", "bucket": "state, structure, row", "bucket_of_values": "values, buckets",
        "relation_shape": "state, name", "structure_shape": "state, name", "places": "state", "room_needed": "state",
    },
    "costs": {
        "offered": "state", "read_sectors": "state, layout, call", "all_read": "state, layout, calls",
        "written": "before, after, layout", "cost": "before, after, layout, calls", "excesses": "before, after, calls",
        "laying": "state, structure", "stands": "state, layout", "going": "state, first, second",
        "way": "state, first, second",
    },
    "papers": {"judge": "paper"},
    "blocks": {
        "write_block": "turn, data", "read_block": "sectors, turn", "head": "turn, area", "read_head": "sector",
        "region_start": "size", "area_size": "size", "area_start": "size, area", "found": "disk",
    },
}
CLASSES = {
    "errors": {
        "ShelfError": ("ValueError", {}),
        "Refused": ("ShelfError", {"__init__": "self, problem"}),
        "InvalidArgument": ("ShelfError", {}),
        "TransactionOpen": ("ShelfError", {}),
        "NoTransaction": ("ShelfError", {}),
        "NoSavepoint": ("ShelfError", {}),
        "DiskFull": ("ShelfError", {}),
        "PowerOff": ("ShelfError", {}),
        "DatabaseOpen": ("ShelfError", {}),
        "DatabaseClosed": ("ShelfError", {}),
        "DamagedData": ("ShelfError", {}),
    },
    "states": {
        "State": (None, {
            "__init__": "self, items=()",
            "all_items": "self",
            "has": "self, relation, row",
            "copy": "self",
            "change": "self, changes",
            "same_schema": "self, other",
        }),
    },
    "codes": {
        "Reader": (None, {
            "__init__": "self, data",
            "read_number": "self",
            "read_integer": "self",
            "read_string": "self",
            "read_value": "self",
            "read_row": "self",
            "read_item": "self",
            "read_change": "self",
            "read_changes": "self",
            "read_image": "self",
            "end": "self",
        }),
    },
    "policy": {
        "Policy": (None, {
            "__init__": "self, start, stands, ways", "serve": "self, task", "hindsight": "self", "paper": "self",
        }),
    },
    "transactions": {
        "Words": (None, {
            "__init__": "self",
            "own": "self, state",
            "say": "self, state, statement",
            "savepoint": "self, name",
            "rollback_to": "self, state, name",
            "again": "self, state",
            "all_calls": "self, state",
        }),
    },
    "disk": {
        "Disk": (None, {
            "__init__": "self, sectors",
            "size": "self",
            "read": "self, index",
            "pending": "self",
            "counts": "self",
            "write": "self, index, data",
            "sync": "self",
            "note_reads": "self, count",
            "fail_after": "self, operations",
            "power": "self, kept",
            "is_on": "self",
            "losses": "self",
        }),
    },
    "store": {
        "Store": (None, {"__init__": "self, disk", "fits": "self, changes", "commit": "self, changes"}),
    },
    "database": {
        "Database": (None, {
            "__init__": "self, disk", "session": "self", "status": "self", "hindsight": "self", "paper": "self",
        }),
        "Session": (None, {
            "run": "self, statement",
            "begin": "self",
            "commit": "self",
            "rollback": "self",
            "savepoint": "self, name",
            "rollback_to": "self, name",
        }),
    },
}

LIBRARY = {
    "heapq": {"heappush", "heappop", "heapify", "heapreplace", "heappushpop"},
    "math": {"gcd", "lcm", "isqrt", "comb", "perm", "factorial"},
    "itertools": {"product", "combinations", "permutations", "chain", "accumulate", "pairwise", "islice",
                  "zip_longest"},
    "collections": {"defaultdict"},
}
MODULE_LEVEL = (ast.ImportFrom, ast.FunctionDef, ast.ClassDef, ast.Assign)
BARRED = (ast.Global, ast.AsyncFunctionDef, ast.Await, ast.Import, ast.Div, ast.MatMult)
CALLS = {
    "len", "range", "enumerate", "zip", "min", "max", "sum", "abs", "sorted", "reversed", "int", "str", "bool",
    "list", "tuple", "dict", "set", "isinstance", "ord", "repr", "any", "all", "divmod", "pow", "map", "iter",
    "next", "super",
}

# The methods of builtin values that the package may call.
METHODS = set("""
append clear copy count endswith extend find get index insert isalnum isalpha isdigit islower isspace isupper items
join keys ljust lower lstrip partition pop remove replace reverse rfind rjust rpartition rsplit rstrip setdefault
split splitlines startswith strip update upper values zfill bit_length add discard sort
""".split())

# Words that stand in no name and no string.
WORDS = {
    "register", "mro", "elements", "open", "input", "law", "with_traceback", "add_note", "typing", "enum", "Enum",
    "Flag", "Generic", "Protocol", "ABC", "namedtuple", "dataclass", "overload", "contextmanager", "abstractmethod",
}


def files():
    return sorted(PACKAGE.glob("*.py"))


def tree_of(path):
    return ast.parse(path.read_text(encoding="utf-8"))


def defined(name, kind):
    tree = tree_of(PACKAGE / (name + ".py"))
    return {node.name: node for node in tree.body if isinstance(node, kind)}


class InterfaceTest(unittest.TestCase):
    def test_functions_stand_in_their_files(self):
        for name, wanted in FUNCTIONS.items():
            found = defined(name, ast.FunctionDef)
            for function, parameters in wanted.items():
                with self.subTest(file=name, function=function):
                    self.assertIn(function, found)
                    self.assertEqual(ast.unparse(found[function].args), parameters)

    def test_classes_stand_in_their_files(self):
        for name, wanted in CLASSES.items():
            found = defined(name, ast.ClassDef)
            for told, (base, methods) in wanted.items():
                with self.subTest(file=name, told=told):
                    self.assertIn(told, found)
                    bases = [ast.unparse(node) for node in found[told].bases]
                    self.assertEqual(bases, [base] if base else [])
                    self.check_methods(found[told], methods)

    def check_methods(self, told, methods):
        found = {node.name: node for node in told.body if isinstance(node, ast.FunctionDef)}
        for method, parameters in methods.items():
            self.assertIn(method, found)
            self.assertEqual(ast.unparse(found[method].args), parameters)


class RulesTest(unittest.TestCase):
    def test_the_package_holds_only_its_files(self):
        names = [path.name for path in PACKAGE.iterdir() if path.name != "__pycache__"]
        self.assertIn("__init__.py", names)
        for name in names:
            self.assertRegex(name, re.compile(r"[a-z0-9_]+\.py\Z"))

    def test_sizes_and_characters(self):
        for path in files():
            text = path.read_bytes().decode("ascii")
            lines = text.split("\n")
            with self.subTest(file=path.name):
                self.assertTrue(all(char == "\n" or " " <= char <= "~" for char in text))
                self.assertLessEqual(len(lines), 399)
                self.assertLessEqual(max(len(line) for line in lines), 120)
                for node in ast.walk(tree_of(path)):
                    if isinstance(node, ast.FunctionDef):
                        self.assertLessEqual(node.end_lineno - node.lineno + 1, 40, node.name)

    def test_imports(self):
        names = {path.stem for path in files()}
        for path in files():
            for node in ast.walk(tree_of(path)):
                if isinstance(node, ast.ImportFrom):
                    with self.subTest(file=path.name, line=node.lineno):
                        self.check_import(node, names)

    def check_import(self, node, names):
        self.assertEqual(node.level, 0)
        told = {alias.name for alias in node.names}
        if node.module in LIBRARY:
            self.assertLessEqual(told, LIBRARY[node.module])
            self.assertTrue(all(alias.asname is None for alias in node.names))
            return
        self.assertRegex(node.module, re.compile(r"turnshelves\.[a-z0-9_]+\Z"))
        name = node.module.split(".")[1]
        self.assertIn(name, names - {"__main__", "__init__"})
        tree = tree_of(PACKAGE / (name + ".py"))
        bound = {part.name for part in tree.body if isinstance(part, (ast.FunctionDef, ast.ClassDef))}
        bound |= {part.targets[0].id for part in tree.body if isinstance(part, ast.Assign)}
        self.assertLessEqual(told, bound)

    def test_no_two_files_import_from_each_other(self):
        seen = {}
        for path in files():
            nodes = [node for node in ast.walk(tree_of(path)) if isinstance(node, ast.ImportFrom)]
            seen[path.stem] = {node.module.split(".")[-1] for node in nodes if node.module not in LIBRARY}
        while seen:
            ends = [name for name, others in seen.items() if not others & set(seen)]
            self.assertTrue(ends, f"these import from each other: {sorted(seen)}")
            for name in ends:
                del seen[name]

    def test_statements(self):
        for path in files():
            tree = tree_of(path)
            for at, node in enumerate(tree.body):
                docstring = at == 0 and isinstance(node, ast.Expr) and isinstance(node.value, ast.Constant)
                self.assertTrue(docstring or isinstance(node, MODULE_LEVEL), (path.name, node.lineno))
            for node in ast.walk(tree):
                place = (path.name, getattr(node, "lineno", 0))
                self.assertNotIsInstance(node, BARRED, place)
                if isinstance(node, ast.Constant):
                    self.assertNotIsInstance(node.value, (float, complex), place)
                    self.assertFalse(isinstance(node.value, str) and "%" in node.value, place)
                if isinstance(node, (ast.FunctionDef, ast.ClassDef)):
                    self.check_decorators(node, place)

    def test_values_at_module_level_are_plain(self):
        plain = (ast.Constant, ast.Tuple, ast.List, ast.Dict, ast.Name, ast.Load, ast.UnaryOp, ast.USub)
        for path in files():
            for node in tree_of(path).body:
                if isinstance(node, ast.Assign):
                    self.assertEqual(len(node.targets), 1)
                    self.assertIsInstance(node.targets[0], ast.Name, (path.name, node.lineno))
                    for part in ast.walk(node.value):
                        self.assertIsInstance(part, plain, (path.name, node.lineno))

    def test_attributes_are_assigned_and_are_no_methods(self):
        assigned, read, methods = {}, {}, set()
        for path in files():
            for told in tree_of(path).body:
                if not isinstance(told, ast.ClassDef):
                    continue
                own = {part.name for part in told.body if isinstance(part, ast.FunctionDef)}
                self.assertEqual(len(own), sum(isinstance(part, ast.FunctionDef) for part in told.body))
                stored = {
                    node.attr for node in ast.walk(told) if isinstance(node, ast.Attribute)
                    and isinstance(node.ctx, ast.Store) and ast.unparse(node.value) == "self"
                }
                self.assertEqual(own & stored, set(), (path.name, told.name))
                methods |= own
            for node in ast.walk(tree_of(path)):
                if isinstance(node, ast.Attribute):
                    side = assigned if isinstance(node.ctx, ast.Store) else read
                    side[node.attr] = (path.name, node.lineno)
        for name, place in read.items():
            self.assertTrue(name in assigned or name in methods | METHODS, (name, place))

    def test_methods(self):
        own = set()
        for path in files():
            for node in ast.walk(tree_of(path)):
                if isinstance(node, ast.ClassDef):
                    own |= {part.name for part in node.body if isinstance(part, ast.FunctionDef)}
        for path in files():
            for node in ast.walk(tree_of(path)):
                if isinstance(node, ast.Call) and isinstance(node.func, ast.Attribute):
                    self.assertIn(node.func.attr, METHODS | own, (path.name, node.lineno))

    def test_names_and_strings(self):
        builtins = set(dir(__import__("builtins")))
        for path in files():
            for node in ast.walk(tree_of(path)):
                place = (path.name, getattr(node, "lineno", 0))
                names = [getattr(node, word, None) for word in ("id", "attr", "arg", "name")]
                names = [name for name in names if isinstance(name, str)]
                self.assertFalse(WORDS & set(names), place)
                if isinstance(node, (ast.arg, ast.FunctionDef, ast.ClassDef)):
                    self.assertNotIn(names[0], builtins, place)
                if isinstance(node, ast.Constant) and isinstance(node.value, str):
                    self.assertFalse(WORDS & set(re.findall(r"\w+", node.value)), place)

    def test_sets_are_not_iterated_and_imports_are_not_shadowed(self):
        for path in files():
            tree = tree_of(path)
            bound = {alias.name for node in tree.body if isinstance(node, ast.ImportFrom) for alias in node.names}
            bound |= {node.name for node in tree.body if isinstance(node, ast.ClassDef)}
            for node in ast.walk(tree):
                place = (path.name, getattr(node, "lineno", 0))
                if isinstance(node, (ast.For, ast.comprehension)):
                    self.assertNotIsInstance(node.iter, (ast.Set, ast.SetComp), place)
                if isinstance(node, ast.Name) and isinstance(node.ctx, ast.Store):
                    self.assertNotIn(node.id, bound, place)
                if isinstance(node, ast.arg):
                    self.assertNotIn(node.arg, bound, place)

    def check_decorators(self, node, place):
        for decorator in node.decorator_list:
            self.assertRegex(ast.unparse(decorator), r"\A(property|staticmethod|classmethod|\w+\.setter)\Z", place)

    def test_calls_of_builtins(self):
        builtins = set(dir(__import__("builtins")))
        errors = {name for name in builtins if name.endswith("Error")}
        for path in files():
            for node in ast.walk(tree_of(path)):
                if isinstance(node, ast.Name) and node.id in builtins - errors:
                    self.assertIn(node.id, CALLS, (path.name, node.lineno))
                    self.assertIsInstance(node.ctx, ast.Load, (path.name, node.lineno))


if __name__ == "__main__":
    unittest.main()
