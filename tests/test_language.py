"""The package's files keep to LANGUAGE.md, as far as a walk over them can tell."""

import ast
import builtins
import pathlib
import re
import unittest

PACKAGE = pathlib.Path(__file__).resolve().parent.parent / "leadersplice"
FILES = sorted(path for path in PACKAGE.rglob("*") if "__pycache__" not in path.parts)

OWN_NAMES = """len range enumerate zip min max sum abs sorted reversed int str bool list tuple dict set frozenset
    isinstance ord repr any all divmod Exception ValueError TypeError KeyError IndexError LookupError
    ZeroDivisionError ArithmeticError OverflowError RuntimeError NotImplementedError AttributeError
    StopIteration""".split()
OWN_METHODS = """append clear copy count endswith extend find get index insert isalnum isalpha isdigit islower isspace
    isupper items join keys ljust lower lstrip partition pop remove replace reverse rfind rjust rpartition rsplit
    rstrip setdefault split splitlines startswith strip update upper values zfill bit_length""".split()
KEYWORDS = {"sorted": ("key", "reverse"), "min": ("key", "default"), "max": ("key", "default"), "sum": ("start",),
            "enumerate": ("start",), "zip": ("strict",)}
WALKED = "zip enumerate reversed range items keys values".split()
WALKERS = "list tuple dict sorted sum any all enumerate zip min max".split()
DUNDERS = "__init__ __eq__ __repr__ __str__ __len__".split()
UNUSED_NAMES = """register mro elements open input version_info with_traceback add_note format format_map attrgetter
    breakpoint builtins compile copyright credits delattr dir eval exec exit gc getattr globals hasattr help id
    importlib license locals methodcaller os quit setattr super type vars""".split()
UNUSED_WORDS = re.compile(
    r"\b(type|typing|typing_extensions|enum|Enum|IntEnum|StrEnum|Flag|IntFlag|Generic|Protocol|ABC|ABCMeta"
    r"|namedtuple|NamedTuple|TypedDict|TYPE_CHECKING|abstractmethod)\b|dataclass|overload|contextmanager")
NODES = """Module Expr Constant ImportFrom alias FunctionDef ClassDef arguments arg Lambda Assign AugAssign If While For
    Return Break Continue Pass Raise Try ExceptHandler Call keyword Attribute Subscript Slice Name Load Store List
    Tuple Dict Set ListComp comprehension BinOp UnaryOp BoolOp Compare IfExp JoinedStr FormattedValue Add Sub Mult
    FloorDiv Mod Pow BitAnd BitOr BitXor LShift RShift Invert USub UAdd Not And Or Eq NotEq Lt LtE Gt GtE Is IsNot
    In NotIn""".split()


def nodes(tree, *kinds):
    return [node for node in ast.walk(tree) if isinstance(node, kinds)]


def bound_at_top(tree):
    names = []
    for node in tree.body:
        if isinstance(node, (ast.FunctionDef, ast.ClassDef)):
            names.append(node.name)
        elif isinstance(node, ast.Assign):
            names.extend(target.id for target in node.targets)
    return names


def bound_within(function):
    arguments = [node.arg for node in nodes(function, ast.arg)]
    stored = [node.id for node in nodes(function, ast.Name) if isinstance(node.ctx, ast.Store)]
    return arguments + stored


def called(node):
    """The name that a call calls, a function's or a method's."""
    return getattr(node.func, "id", getattr(node.func, "attr", None))


def walked_on_the_spot(tree):
    """All that stands where L23 lets something be walked."""
    spots = [node.iter for node in nodes(tree, ast.For, ast.comprehension)]
    for node in nodes(tree, ast.Call):
        if called(node) in WALKERS and isinstance(node.func, ast.Name):
            spots.extend(node.args if called(node) == "zip" else node.args[:1])
        elif called(node) == "join" and isinstance(node.func.value, ast.Constant):
            spots.extend(node.args)
    return spots


class Language(unittest.TestCase):
    def setUp(self):
        self.texts = {path.stem: path.read_text(encoding="utf-8") for path in FILES}
        self.trees = {name: ast.parse(text) for name, text in self.texts.items()}

    def each(self, *kinds):
        return [(name, node) for name, tree in self.trees.items() for node in nodes(tree, *kinds)]

    def good(self, rule, right, name, node):
        line = getattr(node, "lineno", "")
        self.assertTrue(right, f"{rule}: {name}.py {line}")

    def test_files(self):
        self.assertIn("__init__.py", [path.name for path in FILES])
        for path in FILES:
            self.assertRegex(path.name, r"^([a-z][a-z0-9_]*|__init__|__main__)\.py$", "L1, L14")

    def test_signs_and_words(self):
        for name, text in self.texts.items():
            self.assertEqual([sign for sign in text if sign != "\n" and not " " <= sign <= "~"], [], f"L14: {name}")
            self.assertIsNone(UNUSED_WORDS.search(text), f"L17: {name}")

    def test_size(self):
        for name, text in self.texts.items():
            rows = text.splitlines()
            self.assertLessEqual(len(rows), 400, f"L10: {name}")
            self.assertLessEqual(max([len(row) for row in rows], default=0), 120, f"L10: {name}")
        for name, node in self.each(ast.FunctionDef):
            self.good("L10", node.end_lineno - node.lineno < 40, name, node)

    def test_forms(self):
        for name, node in self.each(ast.AST):
            self.good("L6, L7", type(node).__name__ in NODES, name, node)
        for name, node in self.each(ast.Expr):
            docstring = node is self.trees[name].body[0] and isinstance(node.value, ast.Constant)
            self.good("L3, L6", docstring or isinstance(node.value, ast.Call), name, node)
        for name, node in self.each(ast.Assign):
            self.good("L6", len(node.targets) == 1 and not isinstance(node.targets[0], ast.Tuple), name, node)
        for name, node in self.each(ast.For, ast.While):
            self.good("L6", not node.orelse, name, node)
        for name, node in self.each(ast.Try):
            self.good("L6", not node.finalbody and all(handler.type for handler in node.handlers), name, node)
        for name, node in self.each(ast.ListComp):
            self.good("L7", len(node.generators) == 1 and len(node.generators[0].ifs) < 2, name, node)
        for name, node in self.each(ast.FormattedValue):
            self.good("L7", isinstance(node.value, ast.Name) and not node.format_spec, name, node)
        for name, node in self.each(ast.Constant):
            self.good("L7", node.value is None or isinstance(node.value, (bool, int, str)), name, node)

    def test_imports(self):
        drawn = {name: [] for name in self.trees}
        for name, node in self.each(ast.ImportFrom):
            source = node.module.rpartition(".")[2]
            self.good("L2, L16", node.module == f"leadersplice.{source}" and node.level == 0, name, node)
            for given in node.names:
                self.good("L16", given.name in bound_at_top(self.trees[source]), name, node)
            drawn[name].append(source)
        while drawn:
            free = [name for name in drawn if not any(source in drawn for source in drawn[name])]
            self.assertTrue(free, f"L16: files draw from one another: {sorted(drawn)}")
            drawn = {name: drawn[name] for name in drawn if name not in free}

    def test_functions_and_classes(self):
        for name, node in self.each(ast.arguments):
            plain = not (node.vararg or node.kwarg or node.kwonlyargs or node.posonlyargs)
            self.good("L4", plain, name, node)
        for name, node in self.each(ast.FunctionDef, ast.ClassDef):
            self.good("L4, L5", not node.decorator_list, name, node)
        for name, node in self.each(ast.arg):
            self.good("L21", node.annotation is None, name, node)
        for name, node in self.each(ast.FunctionDef):
            self.good("L21", node.returns is None, name, node)
        for name, node in self.each(ast.ClassDef):
            plain = all(isinstance(inner, (ast.FunctionDef, ast.Pass)) for inner in node.body)
            self.good("L5", plain and len(node.bases) < 2 and not node.keywords, name, node)
            self.good("L15", node in self.trees[name].body, name, node)

    def test_names(self):
        for name, node in self.each(ast.Name):
            known = not hasattr(builtins, node.id) or node.id in OWN_NAMES
            self.good("L8", known and node.id not in UNUSED_NAMES, name, node)
            self.good("L12", not node.id.startswith("_"), name, node)
        for name, node in self.each(ast.FunctionDef, ast.ClassDef):
            self.good("L12", not node.name.startswith("_") or node.name in DUNDERS, name, node)
        for name, tree in self.trees.items():
            names = bound_at_top(tree)
            names.extend(given.name for node in nodes(tree, ast.ImportFrom) for given in node.names)
            self.assertEqual(len(names), len(set(names)), f"L15: {name}")

    def test_locals(self):
        for name, node in self.each(ast.FunctionDef, ast.Lambda):
            tree = self.trees[name]
            taken = [inner.name for inner in nodes(tree, ast.ClassDef)]
            taken.extend(given.name for inner in nodes(tree, ast.ImportFrom) for given in inner.names)
            clash = [local for local in bound_within(node) if local in taken or hasattr(builtins, local)]
            self.good(f"L15 {clash}", not clash, name, node)

    def test_attributes(self):
        pythons = {name for kind in (str, int, list, tuple, dict, set, bytes) for name in dir(kind)}
        for name, node in self.each(ast.Attribute):
            allowed = node.attr not in pythons or node.attr in OWN_METHODS + DUNDERS
            self.good("L25", allowed and node.attr not in UNUSED_NAMES, name, node)
            self.good("L12", not node.attr.startswith("_") or node.attr in DUNDERS, name, node)

    def test_is_stands_beside_plain_values(self):
        for name, node in self.each(ast.Compare):
            for operator, right in zip(node.ops, node.comparators):
                if isinstance(operator, (ast.Is, ast.IsNot)):
                    plain = isinstance(right, ast.Constant) and right.value in (None, True, False)
                    self.good("L20", plain, name, node)

    def test_texts(self):
        for name, node in self.each(ast.Constant):
            self.good("L27", not isinstance(node.value, str) or "%" not in node.value, name, node)
        for name, node in self.each(ast.BinOp):
            if isinstance(node.op, ast.Pow):
                self.good("L27", isinstance(node.right, ast.Constant), name, node)

    def test_keywords(self):
        for name, node in self.each(ast.Call):
            if hasattr(builtins, called(node)) or called(node) in OWN_METHODS:
                given = [keyword.arg for keyword in node.keywords]
                self.good("L22", all(word in KEYWORDS.get(called(node), ()) for word in given), name, node)

    def test_own_names_are_called(self):
        for name, tree in self.trees.items():
            heads = [node.func for node in nodes(tree, ast.Call)]
            heads.extend(kind for node in nodes(tree, ast.Call) if called(node) == "isinstance"
                         for kind in nodes(node.args[1], ast.Name))
            heads.extend(kind for node in nodes(tree, ast.ExceptHandler) for kind in nodes(node.type, ast.Name))
            heads.extend(base for node in nodes(tree, ast.ClassDef) for base in node.bases)
            heads.extend(keyword.value for keyword in nodes(tree, ast.keyword) if keyword.arg == "key")
            for node in nodes(tree, ast.Name):
                self.good("L18, L22", not hasattr(builtins, node.id) or node in heads, name, node)
            for node in nodes(tree, ast.Attribute):
                self.good("L25", node.attr not in OWN_METHODS or node in heads, name, node)

    def test_walked_at_once(self):
        for name, tree in self.trees.items():
            spots = walked_on_the_spot(tree)
            for node in nodes(tree, ast.Call):
                self.good("L23", called(node) not in WALKED or node in spots, name, node)

    def test_no_sets(self):
        for name, node in self.each(ast.Set, ast.Call):
            kept = isinstance(node, ast.Set) or called(node) in ("set", "frozenset")
            self.good("L13, L24", not kept, name, node)

    def test_errors_are_made_on_the_spot(self):
        for name, node in self.each(ast.Raise):
            self.good("L19", isinstance(node.exc, ast.Call) and node.cause is None, name, node)

    def test_what_stands_at_the_top(self):
        for name, tree in self.trees.items():
            for node in tree.body[1:]:
                plain = isinstance(node, (ast.ImportFrom, ast.FunctionDef, ast.ClassDef, ast.Assign))
                self.good("L3", plain, name, node)
            for node in tree.body:
                if isinstance(node, ast.Assign):
                    made = nodes(node.value, ast.Call, ast.ListComp, ast.BinOp, ast.Lambda, ast.Attribute)
                    self.good("L3", not made, name, node)

    def test_lists_and_dicts_of_the_top_are_only_read(self):
        for name, tree in self.trees.items():
            kept = [node for node in tree.body if isinstance(node, ast.Assign) and isinstance(node.value, (ast.List, ast.Dict))]
            for node in kept:
                inner = [value for value in nodes(node.value, ast.List, ast.Dict) if value is not node.value]
                self.good("L15", not inner, name, node)
            names = [node.targets[0].id for node in kept]
            spots = walked_on_the_spot(tree)
            spots.extend(node.value for node in nodes(tree, ast.Subscript) if isinstance(node.ctx, ast.Load))
            spots.extend(side for node in nodes(tree, ast.Compare) for side in node.comparators)
            spots.extend(node.args[0] for node in nodes(tree, ast.Call) if called(node) == "len")
            spots.extend(node.value for node in nodes(tree, ast.Attribute) if node.attr in ("get", "items", "keys", "values"))
            for node in nodes(tree, ast.Name):
                if node.id in names and isinstance(node.ctx, ast.Load):
                    self.good("L15", node in spots, name, node)

    def test_methods_and_values_of_objects(self):
        pythons = {name for kind in (str, int, list, tuple, dict, set, bytes) for name in dir(kind)}
        methods = set()
        for name, node in self.each(ast.ClassDef):
            own = [inner.name for inner in node.body if isinstance(inner, ast.FunctionDef)]
            self.good("L18", len(own) == len(set(own)), name, node)
            methods.update(own)
            for inner in node.body:
                if isinstance(inner, ast.FunctionDef) and inner.name == "__init__":
                    self.good("L28", not nodes(inner, ast.Return), name, inner)
                if isinstance(inner, ast.FunctionDef) and inner.name not in DUNDERS:
                    self.good("L26", inner.name not in pythons or inner.name in OWN_METHODS, name, inner)
        for name, node in self.each(ast.Attribute):
            if isinstance(node.ctx, ast.Store):
                self.good("L18", node.attr not in methods and isinstance(node.value, ast.Name), name, node)
                self.good("L26", node.attr not in pythons and node.attr != "args", name, node)

    def test_classes_are_called_or_named_in_their_places(self):
        classes = {node.name for _, node in self.each(ast.ClassDef)}
        for name, tree in self.trees.items():
            heads = [node.func for node in nodes(tree, ast.Call)]
            heads.extend(base for node in nodes(tree, ast.ClassDef) for base in node.bases)
            heads.extend(kind for node in nodes(tree, ast.ExceptHandler) for kind in nodes(node.type, ast.Name))
            heads.extend(kind for node in nodes(tree, ast.Call) if called(node) == "isinstance"
                         for kind in nodes(node.args[1], ast.Name))
            for node in nodes(tree, ast.Name):
                self.good("L18", node.id not in classes or node in heads, name, node)

    def test_what_a_loop_walks_is_not_changed_in_it(self):
        changing = "append clear extend insert pop remove reverse setdefault update".split()
        for name, node in self.each(ast.For):
            walked = {ast.unparse(inner) for inner in ast.walk(node.iter) if isinstance(inner, (ast.Name, ast.Attribute))}
            for inner in [found for row in node.body for found in ast.walk(row)]:
                if isinstance(inner, ast.Call) and isinstance(inner.func, ast.Attribute) and inner.func.attr in changing:
                    self.good("L23", ast.unparse(inner.func.value) not in walked, name, inner)
                if isinstance(inner, ast.Subscript) and isinstance(inner.ctx, ast.Store):
                    self.good("L23", ast.unparse(inner.value) not in walked, name, inner)
