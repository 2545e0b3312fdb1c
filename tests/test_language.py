"""Rules of the language that the package is written in, as far as they can be read off its files.

The names of the tests tell the rules.
"""

import ast
import builtins
import pathlib
import re
import unittest

PACKAGE = pathlib.Path(__file__).resolve().parent.parent / "littlewebs"

LIBRARY = {
    "heapq": {"heappush", "heappop", "heapify", "heapreplace", "heappushpop"},
    "math": {"gcd", "lcm", "isqrt", "comb", "perm", "factorial"},
    "itertools": {
        "product", "combinations", "permutations", "chain", "accumulate", "pairwise", "islice", "zip_longest",
    },
    "collections": {"defaultdict", "deque"},
    "__future__": {"annotations"},
}

BUILTINS = set(
    "len range enumerate zip min max sum abs sorted reversed int str bool bytes list tuple dict set frozenset"
    " isinstance ord repr any all divmod pow getattr hasattr setattr iter next map property staticmethod classmethod"
    " super type Exception ValueError TypeError KeyError IndexError LookupError ZeroDivisionError ArithmeticError"
    " OverflowError RuntimeError NotImplementedError AttributeError StopIteration NotImplemented object float".split()
)

DUNDERS = set(
    "__init__ __eq__ __repr__ __str__ __len__ __enter__ __exit__ __call__ __iter__ __lt__ __le__ __gt__ __ge__ __ne__"
    " __add__ __sub__ __mul__ __floordiv__ __mod__ __pow__ __and__ __or__ __xor__ __lshift__ __rshift__ __neg__"
    " __pos__ __invert__ __abs__ __bool__ __contains__ __getitem__ __setitem__".split()
)

METHODS = set(
    "append clear copy count endswith extend find get index insert isalnum isalpha isdigit islower isspace isupper"
    " items join keys ljust lower lstrip partition pop remove replace reverse rfind rjust rpartition rsplit rstrip"
    " setdefault split splitlines startswith strip update upper values zfill bit_length title capitalize swapcase"
    " casefold center expandtabs removeprefix removesuffix rindex isascii isdecimal isnumeric istitle isidentifier"
    " isprintable translate add discard appendleft popleft extendleft rotate".split()
)

BARRED_ATTRIBUTES = set("register mro elements open input law version_info with_traceback add_note".split())

BARRED_NAMES = BARRED_ATTRIBUTES | set(
    "attrgetter breakpoint builtins compile copyright credits delattr dir eval exec exit gc globals help id importlib"
    " license locals methodcaller os quit vars sys".split()
)

BARRED_WORDS = set(
    "typing typing_extensions enum Enum IntEnum StrEnum Flag IntFlag Generic Protocol ABC ABCMeta namedtuple"
    " NamedTuple TypedDict TYPE_CHECKING abstractmethod".split()
)

DOUBLE_UNDERSCORES = DUNDERS | set("__all__ __class__ __future__ __name__ __slots__ __version__".split())

PLAIN_NAME = re.compile(r"_?[A-Za-z][A-Za-z0-9_]*|_")

# What L12 keeps for other uses: names, also with digits and underscores behind them; beginnings of names; and words.
KEPT_NAME = re.compile(r"_(cold|tuplegetter|outside|record|written_out|member_names)[0-9_]*")
KEPT_BEGINNING = re.compile(r"_(pe_|dcw_|enum_|cm_|twin_re_|lay_|law_|stub_|sre|WallAttr)")
KEPT_WORD = re.compile(r"\b(_wall|_WallAttr)\b")


def files():
    return sorted(path for path in PACKAGE.rglob("*") if path.is_file() and "__pycache__" not in path.parts)


def trees():
    return [(path, ast.parse(path.read_text(encoding="ascii"))) for path in files()]


def nodes(*kinds):
    return [(path, node) for path, tree in trees() for node in ast.walk(tree) if isinstance(node, kinds)]


def module_of(path):
    return ".".join(path.relative_to(PACKAGE.parent).with_suffix("").parts)


def imported(tree):
    return [node for node in tree.body if isinstance(node, ast.ImportFrom)]


def bound_at_top(tree):
    names = []
    for node in tree.body:
        if isinstance(node, (ast.FunctionDef, ast.ClassDef)):
            names.append(node.name)
        elif isinstance(node, ast.Assign):
            names.extend(target.id for target in node.targets)
        elif isinstance(node, ast.ImportFrom):
            names.extend(alias.asname or alias.name for alias in node.names)
    return names


def in_classes(tree):
    """The ids of all that stands straight in a class: its methods, for one."""
    return {id(item) for node in ast.walk(tree) if isinstance(node, ast.ClassDef) for item in node.body}


def names_made(tree):
    """All names that the file gives to something, but for attributes and methods."""
    methods = in_classes(tree)
    for node in ast.walk(tree):
        if isinstance(node, (ast.FunctionDef, ast.ClassDef)) and id(node) not in methods:
            yield node.name
        elif isinstance(node, ast.arg):
            yield node.arg
        elif isinstance(node, ast.Name) and isinstance(node.ctx, ast.Store):
            yield node.id
        elif isinstance(node, ast.alias):
            yield node.asname or node.name
        elif isinstance(node, ast.ExceptHandler) and node.name:
            yield node.name


def names_told(tree):
    """All names in the file, of whatever and wherever they stand: triples of one, its row, whether of an attribute.

    All strings that the tree keeps for a node are names, but for those of constants; so no use of names is forgotten.
    """
    methods = in_classes(tree)
    for node in ast.walk(tree):
        if isinstance(node, ast.Constant):
            continue
        method = isinstance(node, ast.FunctionDef) and id(node) in methods
        attribute = method or isinstance(node, (ast.Attribute, ast.MatchClass))
        for _, value in ast.iter_fields(node):
            for word in value if isinstance(value, list) else [value]:
                if isinstance(word, str):
                    yield from [(name, node.lineno, attribute) for name in word.split(".")]
    yield from [(node.value, node.lineno, True) for node in attributes_in_strings(tree)]


def attributes_in_strings(tree):
    """The strings that tell names of attributes: those of slots, and of getattr and its like."""
    telling = []
    for node in ast.walk(tree):
        if isinstance(node, ast.Assign) and ast.unparse(node.targets[0]) == "__slots__":
            telling.append(node.value)
        elif called(node) in ("getattr", "hasattr", "setattr"):
            telling.extend(node.args[1:2])
    inner = [node for whole in telling for node in ast.walk(whole) if isinstance(node, ast.Constant)]
    return [node for node in inner if isinstance(node.value, str)]


def kept_names(tree):
    """The names in the file that L12 keeps for other uses, each with its row."""
    found = []
    for name, row, attribute in names_told(tree):
        walled = name.startswith("_wall") and not attribute
        if walled or KEPT_NAME.fullmatch(name) or KEPT_BEGINNING.match(name):
            found.append((name, row))
    return found


def strings(tree):
    """The strings of the file, but for docstrings."""
    owners = [node for node in ast.walk(tree) if isinstance(node, (ast.Module, ast.FunctionDef, ast.ClassDef))]
    docstrings = {id(node.body[0].value) for node in owners if ast.get_docstring(node) is not None}
    found = [node for node in ast.walk(tree) if isinstance(node, ast.Constant) and isinstance(node.value, str)]
    return [node for node in found if id(node) not in docstrings]


def told(path, node):
    return f"{path.name}:{node.lineno}"


class Files(unittest.TestCase):
    def test_l1_l14_files(self):
        self.assertTrue((PACKAGE / "__init__.py").is_file())
        for path in files():
            self.assertRegex(path.name, r"^[a-z0-9_]+\.py$")
            self.assertNotIn(path.stem, dir(builtins))
            self.assertFalse(path.stem.startswith(("test", "law_")), path.name)

    def test_l10_l14_lines_and_characters(self):
        for path in files():
            text = path.read_text(encoding="ascii")
            self.assertEqual(re.findall(r"[^ -~\n]", text), [], path.name)
            self.assertLessEqual(len(text.splitlines()), 399, path.name)
            self.assertLessEqual(max([0, *map(len, text.splitlines())]), 120, path.name)

    def test_l10_functions(self):
        for path, node in nodes(ast.FunctionDef):
            self.assertLessEqual(node.end_lineno - node.lineno + 1, 40, told(path, node))

    def test_l2_l16_imports(self):
        made = {module_of(path): bound_at_top(tree) for path, tree in trees()}
        for path, node in nodes(ast.Import, ast.ImportFrom):
            self.assertIsInstance(node, ast.ImportFrom, told(path, node))
            self.assertEqual((node.level, node.col_offset), (0, 0), told(path, node))
            for alias in node.names:
                if node.module in LIBRARY:
                    self.assertIn(alias.name, LIBRARY[node.module], told(path, node))
                else:
                    self.assertIn(alias.name, made[node.module], told(path, node))

    def test_l16_names_come_from_the_file_that_defines_them(self):
        defined = {}
        for path, tree in trees():
            brought = [alias.asname or alias.name for node in imported(tree) for alias in node.names]
            defined[module_of(path)] = [name for name in bound_at_top(tree) if name not in brought]
        for path, tree in trees():
            for node in imported(tree):
                if node.module not in LIBRARY:
                    for alias in node.names:
                        self.assertIn(alias.name, defined[node.module], told(path, node))

    def test_l16_no_round_of_imports(self):
        ahead = {module_of(path): {node.module for node in imported(tree)} - set(LIBRARY) for path, tree in trees()}
        while ahead:
            free = [name for name, needed in ahead.items() if not needed & set(ahead)]
            self.assertNotEqual(free, [], ahead)
            ahead = {name: needed for name, needed in ahead.items() if name not in free}


def parents_of(tree):
    return {id(child): node for node in ast.walk(tree) for child in ast.iter_child_nodes(node)}


def called(node):
    """The bare name that is called here, if one is."""
    return node.func.id if isinstance(node, ast.Call) and isinstance(node.func, ast.Name) else None


# Each text has the name {} once, each in another use.
USES = (
    "def {}(): pass", "def low({}): pass", "def low({}=1): pass", "def low(*{}): pass", "def low(*, {}): pass",
    "def low(**{}): pass", "class {}: pass", "class Low({}): pass", "class Low:\n    {} = 1", "{} = 1", "{}: int = 1",
    "{} += 1", "low, (*{}, high) = rows", "for {} in rows: pass", "low = [1 for _, {} in rows]", "low = lambda {}: 1",
    "if ({} := 1): pass", "with low as {}: pass", "try: pass\nexcept ValueError as {}: pass", "del {}",
    "def low():\n    def high():\n        nonlocal {}", "def low():\n    global {}", "def low():\n    def {}(): pass",
    "low = {}(1)", "low({}=1)", "low: {} = 1", "low = f'{{{}}}'", "from littlewebs.{} import low",
    "from littlewebs.low import {}", "from littlewebs.low import {} as low", "from littlewebs.low import low as {}",
    "match low:\n    case [{}, *_]: pass", "match low:\n    case [1, *{}]: pass", "match low:\n    case 1 as {}: pass",
)

# Here it is an attribute or a method.
USES_OF_ATTRIBUTES = (
    "self.{} = 1", "self.low.{} += 1", "low = box.{}", "box.{}()", "low = f'{{box.{}}}'",
    "class Low:\n    def {}(self): pass", "class Low:\n    __slots__ = ('low', '{}')",
    "getattr(box, '{}', 0)", "hasattr(box, '{}')", "setattr(box, '{}', 1)", "match low:\n    case Low({}=1): pass",
)


class Names(unittest.TestCase):
    def check_uses(self, uses, name, wanted):
        for use in uses:
            found = [told for told, _ in kept_names(ast.parse(use.format(name)))]
            self.assertEqual(found, wanted, use.format(name))

    def test_l12_names_kept_for_other_uses(self):
        for path, tree in trees():
            self.assertEqual(kept_names(tree), [], path.name)
            self.assertEqual(kept_names(ast.parse(f"import {module_of(path)}")), [], path.name)

    def test_l12_kept_names_are_found_in_all_uses(self):
        for name in "_cold _tuplegetter _outside _record _written_out _member_names".split():
            for end in ("", "1", "_", "_2", "__", "07_"):
                self.check_uses(USES + USES_OF_ATTRIBUTES, name + end, [name + end])

    def test_l12_kept_beginnings_are_found_in_all_uses(self):
        for name in "_pe_low _dcw_ _enum_2 _cm_low _twin_re_x _lay_ _law_1 _stub_low _sre _sre_low _WallAttrs".split():
            self.check_uses(USES + USES_OF_ATTRIBUTES, name, [name])

    def test_l12_only_attributes_and_methods_may_begin_with_wall(self):
        self.check_uses(USES, "_walls", ["_walls"])
        self.check_uses(USES_OF_ATTRIBUTES, "_walls", [])

    def test_l12_other_names_are_let(self):
        near = "outside outside_ cold record1 _outsider _outsides _outside_in _outside1a _recorded _colder _written"
        near += " _written_outs _member_name _pe _law _lays _cmd _enums _stubs _twin_re sre_ _my_sre _wal wall_ Outside"
        for name in near.split():
            self.check_uses(USES + USES_OF_ATTRIBUTES, name, [])
        self.check_uses(["low = '{}'", "low = 1  # {}", "def low():\n    '{}'"], "_outside", [])

    def test_l12_words(self):
        for path in files():
            self.assertIsNone(KEPT_WORD.search(path.read_text(encoding="ascii")), path.name)
        for text in ("# no _wall here", "low = '_WallAttr'", "self._wall = 1", "'low _wall. High'"):
            self.assertIsNotNone(KEPT_WORD.search(text), text)
        for text in ("self._walls = 1", "a_wall = 1", "wall = 1", "self._wall_low = 1"):
            self.assertIsNone(KEPT_WORD.search(text), text)

    def test_l12_forms(self):
        for path, tree in trees():
            for name, row, _ in names_told(tree):
                self.assertTrue(name in DOUBLE_UNDERSCORES or PLAIN_NAME.fullmatch(name), f"{path.name}:{row}: {name}")
        for path, node in nodes(ast.ClassDef):
            self.assertNotEqual(node.name[0], "_", told(path, node))

    def test_l12_an_underscore_alone_is_never_read(self):
        for path, tree in trees():
            self.assertNotIn("_", bound_at_top(tree), path.name)
        for path, node in nodes(ast.Name):
            self.assertFalse(node.id == "_" and isinstance(node.ctx, ast.Load), told(path, node))


class Statements(unittest.TestCase):
    def test_l3_module_level(self):
        for path, tree in trees():
            for at, node in enumerate(tree.body):
                docstring = at == 0 and isinstance(node, ast.Expr) and isinstance(node.value, ast.Constant)
                kinds = (ast.ImportFrom, ast.FunctionDef, ast.ClassDef, ast.Assign)
                self.assertTrue(docstring or isinstance(node, kinds), told(path, node))
                if isinstance(node, ast.Assign):
                    self.assertEqual([type(target) for target in node.targets], [ast.Name], told(path, node))

    def test_l15_each_name_is_bound_once(self):
        for path, tree in trees():
            names = bound_at_top(tree)
            self.assertEqual(len(names), len(set(names)), path.name)

    def test_l4_l5_decorators(self):
        for path, node in nodes(ast.FunctionDef, ast.ClassDef):
            for decorator in node.decorator_list:
                self.assertRegex(ast.unparse(decorator), r"^(property|staticmethod|classmethod|\w+\.setter)$")

    def test_l5_methods(self):
        for path, node in nodes(ast.FunctionDef):
            if node.name.startswith("__"):
                self.assertIn(node.name, DUNDERS, told(path, node))

    def test_l6_statements(self):
        barred = (ast.AsyncFunctionDef, ast.AsyncFor, ast.AsyncWith, ast.Await, ast.Global, ast.TryStar)
        self.assertEqual([told(path, node) for path, node in nodes(*barred)], [])

    def test_l19_handlers_name_their_errors(self):
        for path, node in nodes(ast.ExceptHandler):
            self.assertIsNotNone(node.type, told(path, node))


class Expressions(unittest.TestCase):
    def test_l7_no_fraction_of_pythons_own(self):
        for path, node in nodes(ast.Constant):
            self.assertNotIsInstance(node.value, (float, complex), told(path, node))
        self.assertEqual([told(path, node) for path, node in nodes(ast.Div, ast.MatMult)], [])

    def test_l7_l24_sets_and_generators_stand_where_they_may(self):
        for path, node in nodes(ast.Call):
            if isinstance(node.func, ast.Name) and node.func.id in ("any", "all", "min", "max", "sum", "sorted"):
                for passed in node.args:
                    self.assertNotIsInstance(passed, ast.GeneratorExp, told(path, node))

    def test_l20_is(self):
        for path, node in nodes(ast.Compare):
            for at, sign in enumerate(node.ops):
                if isinstance(sign, (ast.Is, ast.IsNot)):
                    right = ast.unparse(node.comparators[at])
                    self.assertRegex(right, r"^(None|True|False|type\(\w+\))$|^[A-Z]\w*$", told(path, node))

    def test_l8_l15_builtins(self):
        barred = set(dir(builtins)) - BUILTINS
        for path, node in nodes(ast.Name):
            self.assertNotIn(node.id, barred, told(path, node))
        for path, tree in trees():
            for name in names_made(tree):
                self.assertNotIn(name, dir(builtins), path.name)
                self.assertNotIn(name, BARRED_NAMES, path.name)
                self.assertRegex(name, r"^_?[A-Za-z][A-Za-z0-9_]*$|^_$", path.name)

    def test_l25_l26_methods(self):
        own = {item.name for _, node in nodes(ast.ClassDef) for item in node.body if isinstance(item, ast.FunctionDef)}
        for path, node in nodes(ast.Call):
            if isinstance(node.func, ast.Attribute):
                self.assertIn(node.func.attr, METHODS | own, told(path, node))

    def test_l15_no_local_name_is_that_of_a_class_or_an_import(self):
        for path, tree in trees():
            brought = {alias.asname or alias.name for node in imported(tree) for alias in node.names}
            brought |= {node.name for node in tree.body if isinstance(node, ast.ClassDef)}
            for node in ast.walk(tree):
                if isinstance(node, ast.arg):
                    self.assertNotIn(node.arg, brought, told(path, node))
                elif isinstance(node, ast.Name) and isinstance(node.ctx, ast.Store):
                    self.assertNotIn(node.id, brought, told(path, node))

    def test_l8_type(self):
        for path, tree in trees():
            above = parents_of(tree)
            for node in ast.walk(tree):
                if called(node) == "type":
                    self.assertIsInstance(above[id(node)], ast.Compare, told(path, node))

    def test_l24_sets(self):
        for path, tree in trees():
            above = parents_of(tree)
            for node in ast.walk(tree):
                if called(node) in ("set", "frozenset") or isinstance(node, (ast.Set, ast.SetComp)):
                    where = above[id(node)]
                    stands = called(where) in ("sorted", "len") or isinstance(where, (ast.Compare, ast.Assign))
                    self.assertTrue(stands, told(path, node))

    def test_l22_keywords_of_builtins(self):
        let = {
            "sorted": {"key", "reverse"}, "min": {"key", "default"}, "max": {"key", "default"}, "sum": {"start"},
            "enumerate": {"start"}, "zip": {"strict"},
        }
        for path, node in nodes(ast.Call):
            if called(node) in BUILTINS:
                self.assertLessEqual({word.arg for word in node.keywords}, let.get(called(node), set()), told(path, node))

    def test_l7_l23_what_is_iterated_stands_where_it_is(self):
        iterating = ("list", "tuple", "dict", "sorted", "sum", "any", "all", "enumerate", "zip", "min", "max")
        for path, tree in trees():
            above = parents_of(tree)
            for node in ast.walk(tree):
                if called(node) in ("zip", "enumerate", "reversed", "range"):
                    where = above[id(node)]
                    stands = isinstance(where, (ast.For, ast.comprehension)) or called(where) in iterating
                    kept = called(node) == "range" and isinstance(where, (ast.Assign, ast.Compare))
                    self.assertTrue(stands or kept, told(path, node))

    def test_l7_stars_in_calls(self):
        for path, node in nodes(ast.Call):
            if any(isinstance(passed, ast.Starred) for passed in node.args) and called(node) in BUILTINS:
                self.assertIn(called(node), ("max", "min", "zip"), told(path, node))

    def test_l27_exponents(self):
        for path, node in nodes(ast.BinOp):
            if isinstance(node.op, ast.Pow):
                self.assertIsInstance(node.right, ast.Constant, told(path, node))
                self.assertLessEqual(node.right.value, 64, told(path, node))

    def test_l17_words(self):
        for path, tree in trees():
            words = {word for node in strings(tree) for word in re.findall(r"\w+", node.value)}
            for node in ast.walk(tree):
                if isinstance(node, ast.Name):
                    words.add(node.id)
                elif isinstance(node, ast.Attribute):
                    words.add(node.attr)
                    self.assertNotIn(node.attr, BARRED_ATTRIBUTES, told(path, node))
            self.assertEqual(words & BARRED_WORDS, set(), path.name)

    def test_l27_strings(self):
        for path, tree in trees():
            for node in strings(tree):
                self.assertNotIn("%", node.value, told(path, node))
                self.assertNotRegex(node.value, r"^__.*__$", told(path, node))
