"""The rules of the language that can be counted: files, sizes, signs, imports, words and builtins."""

import ast
import builtins
import pathlib
import re
import unittest

FOLDER = pathlib.Path(__file__).resolve().parent.parent / "elderlink"
FILES = sorted(FOLDER.glob("*.py"))
LIBRARY = {
    "heapq": ["heappush", "heappop", "heapify", "heapreplace", "heappushpop"],
    "math": ["gcd", "lcm", "isqrt", "comb", "perm", "factorial"],
    "itertools": ["product", "combinations", "permutations"],
}
BUILTINS = """
len range enumerate zip min max sum abs sorted reversed int str bool list tuple dict set isinstance ord repr any all
divmod iter next map property staticmethod classmethod super Exception ValueError TypeError KeyError IndexError
LookupError ZeroDivisionError ArithmeticError OverflowError RuntimeError NotImplementedError AttributeError
StopIteration NotImplemented
""".split()
WORDS = re.compile(
    r"typing|typing_extensions|enum|Enum|IntEnum|StrEnum|Flag|IntFlag|Generic|Protocol|ABC|ABCMeta|namedtuple"
    r"|NamedTuple|TypedDict|TYPE_CHECKING|abstractmethod|type"
)
METHODS = """
append clear copy count endswith extend find get index insert isalnum isalpha isdigit islower isspace isupper items join
keys ljust lower lstrip partition pop remove replace reverse rfind rjust rpartition rsplit rstrip setdefault split
splitlines startswith strip update upper values zfill bit_length
""".split()
NAMES = "register mro elements open input law version_info with_traceback add_note id eval exec hash vars dir".split()


def trees():
    return [(path, ast.parse(path.read_text(encoding="utf-8"))) for path in FILES]


def nodes():
    return [(path, node) for path, tree in trees() for node in ast.walk(tree)]


def names_given(node):
    """The names that a piece of the program gives a meaning to."""
    if isinstance(node, ast.Name) and not isinstance(node.ctx, ast.Load):
        return [node.id]
    if isinstance(node, (ast.FunctionDef, ast.ClassDef)):
        return [node.name]
    if isinstance(node, ast.arg):
        return [node.arg]
    return []


class Language(unittest.TestCase):
    def test_files(self):
        for path in FOLDER.iterdir():
            if path.name != "__pycache__":
                self.assertRegex(path.name, r"^[a-z_][a-z0-9_]*\.py$")
        self.assertIn(FOLDER / "__init__.py", FILES)

    def test_signs_and_sizes(self):
        for path in FILES:
            text = path.read_text(encoding="utf-8")
            self.assertLessEqual(len(text.split("\n")), 399, path)
            self.assertRegex(text, r"\A[ -~\n]*\Z", path)
            self.assertLessEqual(max(len(row) for row in text.split("\n")), 120, path)
        for path, node in nodes():
            if isinstance(node, ast.FunctionDef):
                self.assertLessEqual(node.end_lineno - node.lineno + 1, 40, f"{path}: {node.name}")

    def test_imports(self):
        for path, node in nodes():
            self.assertNotIsInstance(node, ast.Import, path)
            if isinstance(node, ast.ImportFrom):
                self.assertEqual(node.level, 0, path)
                self.assertEqual([name.asname for name in node.names], [None] * len(node.names), path)
                for name in node.names:
                    if node.module in LIBRARY:
                        self.assertIn(name.name, LIBRARY[node.module], path)
                        continue
                    self.assertTrue(node.module.startswith("elderlink."), f"{path}: {node.module}")
                    self.assertIn(name.name, self.defined_in(node.module), f"{path}: {name.name}")

    def defined_in(self, module):
        tree = ast.parse((FOLDER / (module.split(".")[1] + ".py")).read_text(encoding="utf-8"))
        names = []
        for node in tree.body:
            names += names_given(node)
            if isinstance(node, ast.Assign):
                names += [target.id for target in node.targets]
        return names

    def test_builtins(self):
        known = set(dir(builtins))
        for path, node in nodes():
            if isinstance(node, ast.Name) and node.id in known:
                self.assertIn(node.id, BUILTINS, f"{path}:{node.lineno}")
            for name in names_given(node):
                self.assertNotIn(name, known, f"{path}:{node.lineno}")
                self.assertNotIn(name, NAMES, f"{path}:{node.lineno}")

    def test_pieces_that_are_left_out(self):
        barred = (ast.Global, ast.AsyncFunctionDef, ast.Await, ast.Div, ast.Import)
        for path, node in nodes():
            self.assertNotIsInstance(node, barred, f"{path}:{getattr(node, 'lineno', 0)}")
            if isinstance(node, ast.Constant):
                self.assertNotIsInstance(node.value, (float, complex), f"{path}:{node.lineno}")
                if isinstance(node.value, str):
                    self.assertNotIn(chr(37), node.value, f"{path}:{node.lineno}")
            if isinstance(node, (ast.FunctionDef, ast.ClassDef)):
                self.assertIn([ast.unparse(each) for each in node.decorator_list], ([], ["property"]), path)

    def test_lists_in_the_place_of_generator_expressions(self):
        # Askers and lines have an __eq__ of their own: these builtins take lists then.
        for path, node in nodes():
            if isinstance(node, ast.Call) and isinstance(node.func, ast.Name):
                if node.func.id in ("any", "all", "min", "max", "sum", "sorted"):
                    for argument in node.args:
                        self.assertNotIsInstance(argument, ast.GeneratorExp, f"{path}:{node.lineno}")

    def test_no_star_in_an_index(self):
        for path, node in nodes():
            if isinstance(node, ast.Subscript):
                for part in ast.walk(node.slice):
                    self.assertNotIsInstance(part, ast.Starred, f"{path}:{node.lineno}")

    def test_what_stands_where_a_block_is_left(self):
        for path, node in nodes():
            if isinstance(node, ast.FunctionDef) and node.name == "__exit__":
                self.assertEqual([arg.arg for arg in node.args.args], ["self", "kind", "value", "trace"])
                for row in node.body:
                    self.assertIsInstance(row, ast.Assign, f"{path}:{row.lineno}")
                    self.assertIsInstance(row.targets[0], ast.Attribute, f"{path}:{row.lineno}")
                    self.assertIsInstance(row.value, ast.Attribute, f"{path}:{row.lineno}")

    def test_errors_that_are_caught(self):
        own = self.defined_in("elderlink.errors")
        for path, node in nodes():
            if isinstance(node, ast.ExceptHandler):
                self.assertIn(ast.unparse(node.type), own, f"{path}:{node.lineno}")
                self.assertIsNone(node.name)

    def test_methods_of_builtin_values(self):
        methods = {node.name for _, made in nodes() if isinstance(made, ast.ClassDef)
                   for node in made.body if isinstance(node, ast.FunctionDef)}
        for path, node in nodes():
            if isinstance(node, ast.Call) and isinstance(node.func, ast.Attribute):
                self.assertIn(node.func.attr, methods | set(METHODS), f"{path}:{node.lineno}")
                self.assertEqual(node.keywords, [], f"{path}:{node.lineno}")

    def test_words(self):
        for path, node in nodes():
            for name in names_given(node) + ([node.attr] if isinstance(node, ast.Attribute) else []):
                self.assertIsNone(WORDS.fullmatch(name), f"{path}: {name}")

    def test_one_meaning_for_each_name(self):
        for path, tree in trees():
            given = [alias.name for node in tree.body if isinstance(node, ast.ImportFrom) for alias in node.names]
            given += [name for node in tree.body for name in names_given(node)]
            given += [each.id for node in tree.body if isinstance(node, ast.Assign) for each in node.targets]
            self.assertEqual(len(given), len(set(given)), path)
            for part in tree.body:
                if isinstance(part, (ast.FunctionDef, ast.ClassDef)):
                    for node in ast.walk(part):
                        if isinstance(node, ast.arg) or isinstance(node, ast.Name) and isinstance(node.ctx, ast.Store):
                            self.assertNotIn(names_given(node)[0], given, f"{path}:{node.lineno}")

    def test_imports_are_used_and_lead_in_no_circle(self):
        ways = {}
        for path, tree in trees():
            used = {node.id for node in ast.walk(tree) if isinstance(node, ast.Name)}
            for node in tree.body:
                if isinstance(node, ast.ImportFrom):
                    ways.setdefault(path.stem, set()).add(node.module.split(".")[-1])
                    for alias in node.names:
                        self.assertIn(alias.name, used, path)
        done = set()
        while any(path.stem not in done for path in FILES):
            free = [path.stem for path in FILES if path.stem not in done and ways.get(path.stem, set()) - set(LIBRARY) <= done]
            self.assertNotEqual(free, [])
            done.update(free)

    def test_what_is_passed_over_is_not_read(self):
        for path, node in nodes():
            if isinstance(node, ast.Name) and node.id == "_":
                self.assertIsInstance(node.ctx, ast.Store, f"{path}:{node.lineno}")

    def test_loops_do_not_change_what_they_go_over(self):
        for path, node in nodes():
            if isinstance(node, ast.For):
                gone = {each.id for each in ast.walk(node.iter) if isinstance(each, ast.Name)}
                for each in [inner for row in node.body for inner in ast.walk(row)]:
                    if isinstance(each, ast.Call) and isinstance(each.func, ast.Attribute):
                        if each.func.attr in ("append", "pop", "insert", "extend", "update", "setdefault", "clear", "remove"):
                            if isinstance(each.func.value, ast.Name):
                                self.assertNotIn(each.func.value.id, gone, f"{path}:{each.lineno}")
