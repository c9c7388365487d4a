"""The form of the package's files: those rules of LANGUAGE.md that a walk over the code can see."""

import ast
import builtins
import pathlib
import re
import unittest

PACKAGE = pathlib.Path(__file__).resolve().parent.parent / "oathhall"

BUILTINS = set(
    "len range enumerate zip min max sum abs sorted reversed int str bool list tuple dict set frozenset isinstance"
    " ord repr any all divmod Exception ValueError TypeError KeyError IndexError LookupError ZeroDivisionError"
    " ArithmeticError OverflowError RuntimeError NotImplementedError AttributeError StopIteration".split()
)
METHODS = set(
    "append clear copy count endswith extend find get index insert isalnum isalpha isdigit islower isspace isupper"
    " items join keys ljust lower lstrip partition pop remove replace reverse rfind rjust rpartition rsplit rstrip"
    " setdefault split splitlines startswith strip update upper values zfill bit_length".split()
)
UNUSED_NAMES = set(
    "register mro elements open input version_info with_traceback add_note attrgetter breakpoint builtins compile"
    " copyright credits delattr dir eval exec exit gc getattr globals hasattr help id importlib license locals"
    " methodcaller os quit setattr super type vars sys format format_map".split()
)
UNUSED_WORDS = re.compile(
    r"\b(type|typing|typing_extensions|enum|Enum|IntEnum|StrEnum|Flag|IntFlag|Generic|Protocol|ABC|ABCMeta"
    r"|namedtuple|NamedTuple|TypedDict|TYPE_CHECKING|abstractmethod)\b|dataclass|overload|contextmanager"
)
NODES = (
    ast.Module, ast.ImportFrom, ast.alias, ast.FunctionDef, ast.ClassDef, ast.arguments, ast.arg, ast.Lambda,
    ast.Assign, ast.AugAssign, ast.If, ast.While, ast.For, ast.Return, ast.Break, ast.Continue, ast.Pass,
    ast.Raise, ast.Try, ast.ExceptHandler, ast.Expr, ast.Constant, ast.Name, ast.Attribute, ast.Subscript,
    ast.Slice, ast.List, ast.Tuple, ast.Dict, ast.Set, ast.BinOp, ast.UnaryOp, ast.BoolOp, ast.Compare,
    ast.IfExp, ast.Call, ast.keyword, ast.ListComp, ast.comprehension, ast.JoinedStr, ast.FormattedValue,
    ast.operator, ast.unaryop, ast.boolop, ast.cmpop, ast.expr_context,
)
TWO_UNDERSCORES = ("__init__", "__eq__", "__repr__", "__str__", "__len__")


def names_in(node):
    if isinstance(node, ast.Name):
        return [node.id]
    if isinstance(node, ast.Attribute):
        return [node.attr]
    if isinstance(node, (ast.FunctionDef, ast.ClassDef)):
        return [node.name]
    if isinstance(node, ast.arg):
        return [node.arg]
    return []


def bound_names(node):
    if isinstance(node, ast.arg):
        return [node.arg]
    if isinstance(node, ast.Name) and isinstance(node.ctx, ast.Store):
        return [node.id]
    return []


class Form(unittest.TestCase):
    def setUp(self):
        self.files = sorted(path for path in PACKAGE.rglob("*") if "__pycache__" not in path.parts)
        self.texts = {path.name: path.read_bytes().decode("utf-8") for path in self.files if path.is_file()}
        self.trees = {name: ast.parse(text) for name, text in self.texts.items()}
        self.own = set()
        for tree in self.trees.values():
            for node in ast.walk(tree):
                if isinstance(node, ast.FunctionDef):
                    self.own.add(node.name)
                if isinstance(node, ast.Attribute) and isinstance(node.ctx, ast.Store):
                    self.own.add(node.attr)

    def nodes(self):
        for name, tree in self.trees.items():
            for node in ast.walk(tree):
                yield f"{name}:{getattr(node, 'lineno', 0)}", node

    def refuse(self, place, rule, broken):
        if broken:
            self.fail(f"{place}: {rule}")

    def test_files(self):
        for name in self.texts:
            self.refuse(name, "L1, L14", not re.fullmatch(r"[a-z0-9_]+\.py", name))
        self.assertIn("__init__.py", self.texts)

    def test_signs_and_sizes(self):
        for name, text in self.texts.items():
            self.refuse(name, "L14", re.search(r"[^ -~\n]", text))
            self.refuse(name, "L17", UNUSED_WORDS.search(text))
            rows = text.split("\n")
            self.refuse(name, "L10", len(rows) > 401 or max(len(row) for row in rows) > 120)
        for place, node in self.nodes():
            if isinstance(node, ast.FunctionDef):
                self.refuse(place, "L10", node.end_lineno - node.lineno >= 40)

    def test_statements_and_expressions(self):
        for place, node in self.nodes():
            self.refuse(place, f"L6, L7: {node}", not isinstance(node, NODES))
            if isinstance(node, ast.Assign):
                self.refuse(place, "L6", len(node.targets) != 1)
            if isinstance(node, (ast.For, ast.While)):
                self.refuse(place, "L6", node.orelse)
            if isinstance(node, ast.Try):
                self.refuse(place, "L6", node.finalbody)
            if isinstance(node, ast.ListComp):
                self.refuse(place, "L7", len(node.generators) != 1 or len(node.generators[0].ifs) > 1)
            if isinstance(node, ast.Constant):
                self.refuse(place, "L7", isinstance(node.value, (float, complex, bytes)))
                self.refuse(place, "L27", isinstance(node.value, str) and "%" in node.value)
            if isinstance(node, (ast.FunctionDef, ast.ClassDef)):
                self.refuse(place, "L4, L5", node.decorator_list)
            if isinstance(node, ast.arguments):
                self.refuse(place, "L4", node.vararg or node.kwarg or node.kwonlyargs or node.posonlyargs)
            self.refuse(place, "L7", isinstance(node, ast.Div))

    def test_only_a_file_begins_with_a_text(self):
        for place, node in self.nodes():
            if isinstance(node, (ast.FunctionDef, ast.ClassDef)):
                for row in node.body:
                    self.refuse(place, "L5, L6", isinstance(row, ast.Expr) and not isinstance(row.value, ast.Call))

    def test_imports(self):
        for place, node in self.nodes():
            if isinstance(node, ast.ImportFrom):
                own = node.level == 0 and (node.module or "").startswith("oathhall.")
                self.refuse(place, "L2, L16", not own or any(a.name == "*" or a.asname for a in node.names))

    def test_no_two_files_draw_from_one_another(self):
        drawn = {name[:-3]: set() for name in self.trees}
        for name, tree in self.trees.items():
            for node in tree.body:
                if isinstance(node, ast.ImportFrom):
                    drawn[name[:-3]].add(node.module.split(".")[1])
        while drawn:
            free = [name for name, sources in drawn.items() if not sources & set(drawn)]
            self.refuse(sorted(drawn), "L16", not free)
            drawn = {name: sources for name, sources in drawn.items() if name not in free}

    def test_a_name_is_drawn_from_the_file_that_defines_it(self):
        for name, tree in self.trees.items():
            for node in tree.body:
                if isinstance(node, ast.ImportFrom):
                    source = self.trees[node.module.split(".")[1] + ".py"]
                    defined = [row.name for row in source.body if isinstance(row, (ast.FunctionDef, ast.ClassDef))]
                    for drawn in node.names:
                        self.refuse(f"{name}: {drawn.name}", "L16", drawn.name not in defined)

    def test_top_of_a_file(self):
        for name, tree in self.trees.items():
            tops = [row.name for row in tree.body if isinstance(row, (ast.FunctionDef, ast.ClassDef))]
            drawn = [a.name for row in tree.body if isinstance(row, ast.ImportFrom) for a in row.names]
            self.refuse(name, "L15", len(set(tops + drawn)) != len(tops + drawn))
            classes = [row.name for row in tree.body if isinstance(row, ast.ClassDef)]
            for node in ast.walk(tree):
                for bound in bound_names(node):
                    self.refuse(f"{name}: {bound}", "L15", bound in classes + drawn)

    def test_no_name_is_a_method_and_a_value(self):
        methods = set()
        values = set()
        for place, node in self.nodes():
            if isinstance(node, ast.ClassDef):
                names = [row.name for row in node.body if isinstance(row, ast.FunctionDef)]
                self.refuse(place, "L18", len(set(names)) != len(names))
                methods.update(names)
            if isinstance(node, ast.Attribute) and isinstance(node.ctx, ast.Store):
                values.add(node.attr)
        self.refuse(sorted(methods & values), "L18", methods & values)
        for kind in (str, int, list, dict, set, bytes, tuple):
            taken = (methods | values) & set(dir(kind)) - set(TWO_UNDERSCORES)
            self.refuse(sorted(taken), "L26", taken)

    def test_walked_at_once(self):
        walked = ("range", "zip", "enumerate", "reversed")
        takers = ("list", "tuple", "dict", "sorted", "sum", "any", "all", "enumerate", "zip", "min", "max")
        for name, tree in self.trees.items():
            at_once = []
            for node in ast.walk(tree):
                if isinstance(node, (ast.For, ast.comprehension)):
                    at_once.append(node.iter)
                if isinstance(node, ast.Call) and isinstance(node.func, ast.Name) and node.func.id in takers:
                    at_once.extend(node.args[:1])
            for node in ast.walk(tree):
                if isinstance(node, ast.Call) and isinstance(node.func, ast.Name) and node.func.id in walked:
                    self.refuse(f"{name}:{node.lineno}", "L23", node not in at_once)

    def test_names(self):
        for place, node in self.nodes():
            for name in names_in(node):
                plain = re.fullmatch(r"[A-Za-z][A-Za-z0-9_]*", name) or name in TWO_UNDERSCORES
                self.refuse(place, f"L12: {name}", not plain)
                self.refuse(place, f"L17: {name}", name in UNUSED_NAMES)
            for name in bound_names(node):
                self.refuse(place, f"L15: {name}", name in dir(builtins))
            if isinstance(node, ast.Name) and node.id in dir(builtins):
                self.refuse(place, f"L8: {node.id}", node.id not in BUILTINS)
            if isinstance(node, ast.Attribute):
                known = node.attr in METHODS or node.attr in self.own or node.attr in TWO_UNDERSCORES
                self.refuse(place, f"L25: {node.attr}", not known)

    def test_is(self):
        for place, node in self.nodes():
            if isinstance(node, ast.Compare):
                for op, right in zip(node.ops, node.comparators):
                    if isinstance(op, (ast.Is, ast.IsNot)):
                        fixed = isinstance(right, ast.Constant) and right.value in (None, True, False)
                        self.refuse(place, "L20", not fixed)


if __name__ == "__main__":
    unittest.main()
