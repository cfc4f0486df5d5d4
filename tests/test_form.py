"""The interface of DOC.md, and the form that LANGUAGE.md asks of the package's files."""

import ast
import inspect
import pathlib
import re
import subprocess
import sys
import unittest

from shownback import desk

ROOT = pathlib.Path(__file__).resolve().parent.parent
PACKAGE = ROOT / "shownback"
CALLS = {
    "blocks": ["wide", "high", "channels", "red", "green", "blue", "numbers"],
    "unblocks": ["given"],
    "dots": ["wide", "high", "channels", "turned", "numbers"],
    "undots": ["given"],
    "bars": ["rate", "columns", "lines", "samples"],
    "unbars": ["given"],
    "decimal": ["number"],
    "undecimal": ["given"],
    "table": ["n", "names_and_lines"],
    "untable": ["given"],
    "still": ["wide", "high", "channels", "numbers"],
    "unstill": ["given"],
    "film": ["wide", "high", "channels", "sheets"],
    "unfilm": ["k", "given"],
    "sound": ["rate", "samples"],
    "unsound": ["given"],
    "sum_of": ["given"],
    "joined": ["one", "other", "length"],
}
OWN_NAMES = """len range enumerate zip min max sum abs sorted reversed int str bool list tuple dict set frozenset
    isinstance ord repr any all divmod Exception ValueError TypeError KeyError IndexError LookupError
    ZeroDivisionError ArithmeticError OverflowError RuntimeError NotImplementedError AttributeError
    StopIteration""".split()
METHODS = """append clear copy count endswith extend find get index insert isalnum isalpha isdigit islower isspace
    isupper items join keys ljust lower lstrip partition pop remove replace reverse rfind rjust rpartition rsplit
    rstrip setdefault split splitlines startswith strip update upper values zfill bit_length""".split()
WORDS = re.compile(r"\b(type|typing|typing_extensions|enum|Enum|IntEnum|StrEnum|Flag|IntFlag|Generic|Protocol|ABC|"
                   r"ABCMeta|namedtuple|NamedTuple|TypedDict|TYPE_CHECKING|abstractmethod)\b|"
                   r"dataclass|overload|contextmanager")
NODES = """Module Expr Constant ImportFrom alias Assign AugAssign Name Load Store FunctionDef arguments arg Return
    ClassDef Attribute Call If IfExp While For Break Continue Pass Raise Try ExceptHandler BinOp Add Sub Mult FloorDiv
    Mod Pow BitAnd BitOr BitXor LShift RShift UnaryOp USub Invert Not BoolOp And Or Compare Eq NotEq Lt LtE Gt GtE Is
    IsNot In NotIn List Tuple Dict Subscript Slice ListComp comprehension JoinedStr FormattedValue Lambda
    keyword""".split()


def sources():
    return sorted(PACKAGE.rglob("*.py"))


def nodes(path):
    return list(ast.walk(ast.parse(path.read_text())))


class Interface(unittest.TestCase):
    def test_the_calls_and_what_they_are_handed(self):
        for name, handed in CALLS.items():
            self.assertEqual(list(inspect.signature(getattr(desk, name)).parameters), handed)

    def test_by_their_names(self):
        self.assertEqual(desk.blocks(wide=1, high=1, channels=1, red=0, green=0, blue=0, numbers=[65536]), [-8])
        self.assertEqual(desk.unblocks(given=[]), [-4])
        self.assertEqual(desk.dots(wide=1, high=1, channels=1, turned=0, numbers=[0]), [4, 226, 160, 128, 10])
        self.assertEqual(desk.undots(given=[]), [-4])
        self.assertEqual(desk.bars(rate=1, columns=1, lines=1, samples=[0]), [2, 32, 10])
        self.assertEqual(desk.unbars(given=[]), [-4])
        self.assertEqual(desk.decimal(number=0), [1, 48])
        self.assertEqual(desk.undecimal(given=[48]), [0, 0])
        self.assertEqual(desk.table(n=1, names_and_lines=[[97]]), [4, 97, 10, 45, 10])
        self.assertEqual(desk.untable(given=[]), [-4])
        self.assertEqual(desk.still(wide=1, high=1, channels=1, numbers=[0])[0], 43)
        self.assertEqual(desk.unstill(given=[]), [-100])
        self.assertEqual(desk.film(wide=1, high=1, channels=1, sheets=[[0], [0]])[0], 47)
        self.assertEqual(desk.unfilm(k=0, given=[]), [-100])
        self.assertEqual(desk.sound(rate=1, samples=[0])[0], 45)
        self.assertEqual(desk.unsound(given=[]), [-100])
        self.assertEqual(desk.sum_of(given=[]), [0, 0])
        self.assertEqual(desk.joined(one=1, other=2, length=0), [0, 3])

    def test_nothing_but_the_package_is_imported(self):
        script = ("import sys; before = set(sys.modules); from shownback import desk; desk.unblocks([27]); "
                  "print(sorted(name for name in set(sys.modules) - before if name.split('.')[0] != 'shownback'))")
        ran = subprocess.run([sys.executable, "-B", "-S", "-c", script], cwd=ROOT, capture_output=True, text=True)
        self.assertEqual((ran.stdout, ran.stderr), ("[]\n", ""))


class Form(unittest.TestCase):
    def test_files(self):
        kept = [path for path in PACKAGE.rglob("*") if "__pycache__" not in path.parts]
        self.assertEqual([path for path in kept if path.is_file() and path.suffix != ".py"], [])
        for path in sources():
            self.assertRegex(path.stem, r"^([a-z][a-z0-9_]*|__init__)$")

    def test_signs_sizes_and_words(self):
        for path in sources():
            text = path.read_text()
            self.assertRegex(text, r"\A[ -~\n]*\Z", path)
            self.assertIsNone(WORDS.search(text), path)
            self.assertLessEqual(len(text.splitlines()), 400, path)
            self.assertLessEqual(max(len(line) for line in text.splitlines()), 120, path)
            for node in nodes(path):
                if isinstance(node, ast.FunctionDef):
                    self.assertEqual([value for value in node.args.defaults if not isinstance(value, ast.Constant)], [])
                    self.assertLessEqual(node.end_lineno - node.lineno + 1, 40, f"{path} {node.name}")

    def test_statements_and_expressions(self):
        for path in sources():
            for node in nodes(path):
                where = f"{path.name}:{getattr(node, 'lineno', 0)}"
                self.assertIn(type(node).__name__, NODES, where)
                if isinstance(node, ast.Constant):
                    self.assertIsInstance(node.value, (int, str, type(None)), where)
                if isinstance(node, ast.ImportFrom):
                    self.assertTrue(node.level == 0 and node.module.startswith("shownback."), where)
                if isinstance(node, ast.Assign):
                    self.assertTrue(len(node.targets) == 1 and not isinstance(node.targets[0], ast.Tuple), where)
                if isinstance(node, ast.Try):
                    self.assertEqual(node.finalbody, [], where)

    def test_names(self):
        import builtins
        free = set(dir(builtins)) - set(OWN_NAMES)
        for path in sources():
            for node in nodes(path):
                where = f"{path.name}:{getattr(node, 'lineno', 0)}"
                if isinstance(node, ast.Name):
                    self.assertNotIn(node.id, free, where)
                    self.assertFalse(isinstance(node.ctx, ast.Store) and node.id in OWN_NAMES, where)
                    self.assertRegex(node.id, r"^[A-Za-z]", where)
                if isinstance(node, (ast.arg, ast.FunctionDef, ast.ClassDef)):
                    self.assertNotIn(getattr(node, "arg", getattr(node, "name", "")), dir(builtins), where)

    def test_methods(self):
        own = {node.name for path in sources() for node in nodes(path) if isinstance(node, ast.FunctionDef)}
        for path in sources():
            for node in nodes(path):
                if isinstance(node, ast.Call) and isinstance(node.func, ast.Attribute):
                    self.assertIn(node.func.attr, set(METHODS) | own, f"{path.name}:{node.lineno}")

    def test_the_top_of_a_file(self):
        for path in sources():
            bound = []
            for node in ast.parse(path.read_text()).body:
                where = f"{path.name}:{node.lineno}"
                self.assertIsInstance(node, (ast.Expr, ast.ImportFrom, ast.Assign, ast.FunctionDef, ast.ClassDef),
                                      where)
                if isinstance(node, ast.Assign):
                    plain = (ast.Constant, ast.Tuple, ast.UnaryOp, ast.USub, ast.Load)
                    self.assertTrue(all(isinstance(part, plain) for part in ast.walk(node.value)), where)
                    bound.append(node.targets[0].id)
                elif isinstance(node, ast.ImportFrom):
                    bound += [alias.name for alias in node.names]
                elif not isinstance(node, ast.Expr):
                    bound.append(node.name)
            self.assertEqual(sorted(bound), sorted(set(bound)), path.name)

    def test_locals_are_not_called_like_imports_or_classes(self):
        for path in sources():
            tree = ast.parse(path.read_text())
            taken = {alias.name for node in tree.body if isinstance(node, ast.ImportFrom) for alias in node.names}
            taken |= {node.name for node in tree.body if isinstance(node, ast.ClassDef)}
            for node in ast.walk(tree):
                name = node.id if isinstance(node, ast.Name) and isinstance(node.ctx, ast.Store) else None
                name = node.arg if isinstance(node, ast.arg) else name
                self.assertNotIn(name, taken, f"{path.name}:{getattr(node, 'lineno', 0)}")

    def test_every_import_is_used_and_drawn_from_where_it_is_defined(self):
        for path in sources():
            tree = ast.parse(path.read_text())
            used = {node.id for node in ast.walk(tree) if isinstance(node, ast.Name)}
            for node in tree.body:
                if isinstance(node, ast.ImportFrom):
                    other = ast.parse((PACKAGE / (node.module.split(".")[1] + ".py")).read_text())
                    defined = {getattr(part, "name", None) for part in other.body}
                    defined |= {part.targets[0].id for part in other.body if isinstance(part, ast.Assign)}
                    for alias in node.names:
                        self.assertTrue(alias.name in used and alias.name in defined and alias.asname is None,
                                        f"{path.name}: {alias.name}")

    def test_no_two_files_draw_from_one_another(self):
        drawn = {path.stem: {node.module.split(".")[1] for node in nodes(path) if isinstance(node, ast.ImportFrom)}
                 for path in sources()}
        while drawn:
            ready = [name for name, others in drawn.items() if not others & set(drawn)]
            self.assertNotEqual(ready, [], drawn)
            for name in ready:
                del drawn[name]

    def test_powers_have_written_exponents(self):
        for path in sources():
            for node in nodes(path):
                if isinstance(node, ast.BinOp) and isinstance(node.op, ast.Pow):
                    self.assertIsInstance(node.right, ast.Constant, f"{path.name}:{node.lineno}")

    def test_own_methods_and_values(self):
        methods, values = set(), set()
        for path in sources():
            for node in nodes(path):
                if isinstance(node, ast.ClassDef):
                    methods |= {part.name for part in node.body if isinstance(part, ast.FunctionDef)}
                if isinstance(node, ast.Attribute) and isinstance(node.ctx, ast.Store):
                    values.add(node.attr)
        pythons = {name for kind in (str, int, list, dict, set, bytes) for name in dir(kind)}
        self.assertEqual(methods & values, set())
        self.assertEqual((methods - {"__init__"} | values) & pythons, set())


if __name__ == "__main__":
    unittest.main()
