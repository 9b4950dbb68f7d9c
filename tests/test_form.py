"""Holds the package's files to the written form of the program, as far as it can be seen from the outside."""

import ast
import builtins
import pathlib
import re
import unittest

FOLDER = pathlib.Path(__file__).resolve().parent.parent / "travelday"

ALLOWED_NODES = (
    ast.Module, ast.FunctionDef, ast.ClassDef, ast.ImportFrom, ast.alias, ast.arguments, ast.arg,
    ast.Assign, ast.AugAssign, ast.If, ast.While, ast.For, ast.Return, ast.Break, ast.Continue, ast.Pass, ast.Expr,
    ast.BoolOp, ast.BinOp, ast.UnaryOp, ast.Compare, ast.IfExp, ast.Call, ast.keyword, ast.Attribute, ast.Subscript,
    ast.Slice, ast.Name, ast.Constant, ast.List, ast.Tuple, ast.Dict, ast.ListComp, ast.comprehension,
    ast.expr_context, ast.operator, ast.boolop, ast.unaryop, ast.cmpop,
)

OWN_NAMES = (
    "len", "range", "enumerate", "zip", "min", "max", "sum", "abs", "sorted", "reversed", "int", "str", "bool",
    "list", "tuple", "dict", "any", "all", "divmod",
)

METHODS = (
    "append", "clear", "copy", "count", "extend", "get", "index", "insert", "items", "join", "keys", "pop", "remove",
    "reverse", "setdefault", "update", "values", "bit_length",
)

FORBIDDEN_WORDS = (
    "type", "typing", "typing_extensions", "enum", "Enum", "IntEnum", "StrEnum", "Flag", "IntFlag", "Generic",
    "Protocol", "ABC", "ABCMeta", "namedtuple", "NamedTuple", "TypedDict", "TYPE_CHECKING", "abstractmethod",
    "register", "mro", "elements", "open", "input",
)

KEYWORDS = {"sorted": ("key", "reverse"), "min": ("key", "default"), "max": ("key", "default"), "sum": ("start",),
            "enumerate": ("start",), "zip": ("strict",)}


def files():
    return sorted(FOLDER.glob("*.py"))


def nodes(path):
    return list(ast.walk(ast.parse(path.read_text())))


def bound_names(tree_nodes):
    for node in tree_nodes:
        if isinstance(node, (ast.FunctionDef, ast.ClassDef)):
            yield node.name
        elif isinstance(node, ast.arg):
            yield node.arg
        elif isinstance(node, ast.Name) and isinstance(node.ctx, ast.Store):
            yield node.id


class Form(unittest.TestCase):

    def test_the_folder_has_plain_files_alone(self):
        names = [path.name for path in FOLDER.iterdir() if path.name != "__pycache__"]
        self.assertIn("__init__.py", names)
        for name in names:
            self.assertRegex(name, r"^[a-z][a-z0-9_]*\.py$|^__init__\.py$")
            self.assertNotIn(name[:-3], dir(builtins))

    def test_sizes_and_signs(self):
        for path in files():
            text = path.read_text()
            self.assertTrue(all(sign == "\n" or " " <= sign <= "~" for sign in text), path)
            lines = text.splitlines()
            self.assertLessEqual(len(lines), 400, path)
            self.assertLessEqual(max(len(line) for line in lines), 120, path)
            for node in nodes(path):
                if isinstance(node, ast.FunctionDef):
                    self.assertLessEqual(node.end_lineno - node.lineno + 1, 40, (path, node.name))

    def test_words(self):
        for path in files():
            words = re.findall(r"[A-Za-z_0-9]+", path.read_text())
            for word in FORBIDDEN_WORDS:
                self.assertNotIn(word, words, path)
            for word in words:
                self.assertIsNone(re.search("dataclass|overload|contextmanager", word), path)

    def test_statements_and_expressions(self):
        for path in files():
            for node in nodes(path):
                where = (path.name, getattr(node, "lineno", 0), ast.dump(node)[:80])
                self.assertIsInstance(node, ALLOWED_NODES, where)
                self.assertNotIsInstance(node, (ast.Div, ast.MatMult, ast.Pow), where)
                if isinstance(node, (ast.While, ast.For)):
                    self.assertEqual(node.orelse, [], where)
                if isinstance(node, ast.Assign):
                    self.assertEqual(len(node.targets), 1, where)
                    self.assertNotIsInstance(node.targets[0], (ast.Tuple, ast.List), where)
                if isinstance(node, ast.ListComp):
                    self.assertEqual(len(node.generators), 1, where)
                    self.assertLessEqual(len(node.generators[0].ifs), 1, where)
                if isinstance(node, ast.Compare):
                    for sign, right in zip(node.ops, node.comparators):
                        if isinstance(sign, (ast.Is, ast.IsNot)):
                            self.assertIsInstance(right, ast.Constant, where)
                if isinstance(node, ast.Constant):
                    self.assertIn(type(node.value), (int, str, bool, type(None)), where)

    def test_texts_stand_at_the_top_of_a_file_alone(self):
        for path in files():
            body = ast.parse(path.read_text()).body
            for node in nodes(path):
                if isinstance(node, ast.Expr) and not isinstance(node.value, ast.Call):
                    self.assertEqual(ast.dump(node), ast.dump(body[0]), path)

    def test_defs_and_classes(self):
        methods, values = set(), set()
        for path in files():
            for node in nodes(path):
                if isinstance(node, ast.FunctionDef):
                    shape = node.args
                    self.assertFalse(node.decorator_list or shape.vararg or shape.kwarg or shape.kwonlyargs, path)
                if isinstance(node, ast.ClassDef):
                    self.assertFalse(node.decorator_list or node.bases or node.keywords, path)
                    self.assertTrue(all(isinstance(part, ast.FunctionDef) for part in node.body), (path, node.name))
                    methods |= {part.name for part in node.body}
                if isinstance(node, ast.Attribute) and isinstance(node.ctx, ast.Store):
                    values.add(node.attr)
        self.assertEqual(methods & values, set())
        python_own = set().union(*(dir(kind) for kind in (str, int, list, dict, set, bytes, tuple)))
        self.assertEqual((methods | values) & python_own - {"__init__"}, set())

    def test_names(self):
        for path in files():
            tree_nodes = nodes(path)
            body = ast.parse(path.read_text()).body
            tops = [node.name for node in body if isinstance(node, (ast.FunctionDef, ast.ClassDef))]
            tops += [node.targets[0].id for node in body if isinstance(node, ast.Assign)]
            drawn = [name.name for node in body if isinstance(node, ast.ImportFrom) for name in node.names]
            self.assertEqual(len(tops + drawn), len(set(tops + drawn)), path)
            bound = list(bound_names(tree_nodes))
            for name in bound:
                self.assertRegex(name, r"^[A-Za-z][A-Za-z0-9_]*$|^__init__$", path)
                self.assertNotIn(name, dir(builtins), path)
                self.assertNotIn(name, drawn, path)
            for name in tops:
                self.assertEqual(bound.count(name), 1, (path, name))
            for node in tree_nodes:
                if isinstance(node, ast.Name) and isinstance(node.ctx, ast.Load):
                    self.assertIn(node.id, list(OWN_NAMES) + bound + drawn, path)

    def test_calls_of_methods_and_keywords(self):
        own = {node.name for path in files() for node in nodes(path) if isinstance(node, ast.FunctionDef)}
        for path in files():
            for node in nodes(path):
                if not isinstance(node, ast.Call):
                    continue
                if isinstance(node.func, ast.Attribute):
                    self.assertIn(node.func.attr, own | set(METHODS), path)
                    self.assertEqual(node.keywords, [], path)
                elif isinstance(node.func, ast.Name):
                    for keyword in node.keywords:
                        self.assertIn(keyword.arg, KEYWORDS[node.func.id], path)

    def test_imports(self):
        draws = {}
        for path in files():
            draws[path.stem] = []
            for node in nodes(path):
                if isinstance(node, ast.ImportFrom):
                    self.assertEqual(node.col_offset, 0, path)
                    self.assertEqual((node.level, node.module.split(".")[0]), (0, "travelday"), path)
                    draws[path.stem].append(node.module.split(".")[1])
                    source = ast.parse((FOLDER / (node.module.split(".")[1] + ".py")).read_text()).body
                    defined = [part.name for part in source if isinstance(part, (ast.FunctionDef, ast.ClassDef))]
                    defined += [part.targets[0].id for part in source if isinstance(part, ast.Assign)]
                    for name in node.names:
                        self.assertIn(name.name, defined, path)
                        self.assertIsNone(name.asname, path)
        left = dict(draws)
        while left:
            free = [name for name in left if not any(drawn in left for drawn in left[name])]
            self.assertTrue(free, "files draw from one another")
            for name in free:
                left.pop(name)


if __name__ == "__main__":
    unittest.main()
