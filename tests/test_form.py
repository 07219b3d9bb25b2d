"""The part of Python that the package keeps to, as far as a walk over its files can see it."""

import ast
import builtins
import os
import re
import unittest

PACKAGE = os.path.join(os.path.dirname(os.path.dirname(os.path.abspath(__file__))), "tyresjudged")

OWN_NAMES = set("""len range enumerate zip min max sum abs sorted reversed int str bool list tuple dict set frozenset
isinstance ord repr any all divmod Exception ValueError TypeError KeyError IndexError LookupError ZeroDivisionError
ArithmeticError OverflowError RuntimeError NotImplementedError AttributeError StopIteration""".split())

METHODS = set("""append clear copy count endswith extend find get index insert isalnum isalpha isdigit islower isspace
isupper items join keys ljust lower lstrip partition pop remove replace reverse rfind rjust rpartition rsplit rstrip
setdefault split splitlines startswith strip update upper values zfill bit_length""".split())

WORDS = re.compile(r"\b(type|typing|typing_extensions|enum|Enum|IntEnum|StrEnum|Flag|IntFlag|Generic|Protocol|ABC"
                   r"|ABCMeta|namedtuple|NamedTuple|TypedDict|TYPE_CHECKING|abstractmethod)\b"
                   r"|dataclass|overload|contextmanager")

UNUSED = set("""register mro elements open input version_info with_traceback add_note attrgetter breakpoint builtins
compile copyright credits delattr dir eval exec exit gc getattr globals hasattr help id importlib license locals
methodcaller os quit setattr super vars sys format format_map""".split())

FORMS = (
    ast.Module, ast.FunctionDef, ast.ClassDef, ast.ImportFrom, ast.alias, ast.arguments, ast.arg,
    ast.Assign, ast.AugAssign, ast.If, ast.While, ast.For, ast.Return, ast.Break, ast.Continue, ast.Pass, ast.Raise,
    ast.Try, ast.ExceptHandler, ast.Expr, ast.Call, ast.keyword, ast.Attribute, ast.Subscript, ast.Slice, ast.Name,
    ast.Constant, ast.List, ast.Tuple, ast.Dict, ast.BinOp, ast.UnaryOp, ast.BoolOp, ast.Compare, ast.IfExp,
    ast.ListComp, ast.comprehension, ast.Lambda, ast.JoinedStr, ast.FormattedValue,
    ast.expr_context, ast.boolop, ast.operator, ast.unaryop, ast.cmpop,
)


def sources():
    """Each file's name, text and tree."""
    found = []
    for name in sorted(os.listdir(PACKAGE)):
        if name != "__pycache__":
            with open(os.path.join(PACKAGE, name), encoding="utf-8") as file:
                text = file.read()
            found.append((name, text, ast.parse(text)))
    return found


def each_node(*kinds):
    for name, text, tree in sources():
        for node in ast.walk(tree):
            if isinstance(node, kinds):
                yield f"{name}:{getattr(node, 'lineno', 0)}", node


def bound_names(node):
    if isinstance(node, (ast.FunctionDef, ast.ClassDef)):
        return [node.name]
    if isinstance(node, ast.arg):
        return [node.arg]
    if isinstance(node, ast.Name) and isinstance(node.ctx, ast.Store):
        return [node.id]
    if isinstance(node, ast.alias):
        return [node.asname or node.name]
    return []


class Form(unittest.TestCase):
    def test_files(self):
        names = [name for name, text, tree in sources()]
        self.assertIn("__init__.py", names)
        for name in names:
            self.assertRegex(name, r"^(__init__|[a-z][a-z0-9_]*)\.py$")

    def test_signs_and_sizes(self):
        for name, text, tree in sources():
            self.assertTrue(all(sign == "\n" or " " <= sign <= "~" for sign in text), name)
            lines = text.split("\n")
            self.assertLessEqual(len(lines), 400, name)
            for number, line in enumerate(lines, start=1):
                self.assertLessEqual(len(line), 120, f"{name}:{number}")

    def test_short_defs(self):
        for where, node in each_node(ast.FunctionDef):
            self.assertLessEqual(node.end_lineno - node.lineno + 1, 40, where)
            self.assertEqual(node.decorator_list, [], where)
            plain = node.args
            self.assertFalse(plain.vararg or plain.kwarg or plain.kwonlyargs or plain.posonlyargs, where)

    def test_words_that_are_not_used(self):
        for name, text, tree in sources():
            self.assertIsNone(WORDS.search(text), name)

    def test_only_these_forms(self):
        for where, node in each_node(ast.AST):
            self.assertIsInstance(node, FORMS, where)

    def test_the_top_of_a_file(self):
        for name, text, tree in sources():
            self.assertIsNotNone(ast.get_docstring(tree), name)
            for node in tree.body[1:]:
                self.assertIsInstance(node, (ast.ImportFrom, ast.FunctionDef, ast.ClassDef, ast.Assign), name)
            bound = [found for node in tree.body for found in self.bound_at_top(node)]
            self.assertEqual(sorted(bound), sorted(set(bound)), name)

    def bound_at_top(self, node):
        if isinstance(node, ast.Assign):
            return [target.id for target in node.targets]
        if isinstance(node, ast.ImportFrom):
            return [found.name for found in node.names]
        return bound_names(node)

    def test_imports(self):
        for where, node in each_node(ast.ImportFrom):
            self.assertEqual(node.level, 0, where)
            self.assertTrue(node.module.startswith("tyresjudged."), where)
            self.assertNotIn("*", [found.name for found in node.names], where)

    def test_plain_values(self):
        for where, node in each_node(ast.Constant):
            self.assertIn(node.value.__class__, (int, str, bool, None.__class__), where)
        for where, node in each_node(ast.Div, ast.MatMult):
            self.fail(where)
        for where, node in each_node(ast.Assign):
            self.assertEqual(len(node.targets), 1, where)
        for where, node in each_node(ast.For, ast.While):
            self.assertEqual(node.orelse, [], where)
        for where, node in each_node(ast.ListComp):
            self.assertEqual(len(node.generators), 1, where)
            self.assertLessEqual(len(node.generators[0].ifs), 1, where)

    def test_names(self):
        for where, node in each_node(ast.AST):
            for name in bound_names(node):
                self.assertNotIn(name, UNUSED, where)
                if name != "__init__":
                    self.assertNotIn(name, vars(builtins), where)
                    self.assertRegex(name, r"^[A-Za-z][A-Za-z0-9_]*$", where)

    def test_locals_hide_no_import_and_no_class(self):
        for name, text, tree in sources():
            taken = {found.name for node in tree.body if isinstance(node, ast.ImportFrom) for found in node.names}
            taken |= {node.name for node in tree.body if isinstance(node, ast.ClassDef)}
            for node in ast.walk(tree):
                if isinstance(node, (ast.arg, ast.Name)):
                    self.assertFalse(taken.intersection(bound_names(node)), f"{name}:{node.lineno}")

    def test_python_s_own_names(self):
        for where, node in each_node(ast.Name):
            if node.id in vars(builtins):
                self.assertIn(node.id, OWN_NAMES, where)

    def test_methods(self):
        own = {node.name for where, node in each_node(ast.FunctionDef)}
        for where, node in each_node(ast.Call):
            if isinstance(node.func, ast.Attribute):
                self.assertIn(node.func.attr, METHODS | own, where)
        for where, node in each_node(ast.Attribute):
            self.assertNotIn(node.attr, UNUSED, where)


if __name__ == "__main__":
    unittest.main()
