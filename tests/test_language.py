"""The form of the package's files, as far as it is easily seen: the rules L1 to L28 that the program keeps to."""

import ast
import pathlib
import re
import unittest

PACKAGE = pathlib.Path(__file__).resolve().parent.parent / "tidebooks"
FILES = sorted(PACKAGE.glob("*.py"))

STATEMENTS = (ast.FunctionDef, ast.ClassDef, ast.Return, ast.Assign, ast.AugAssign, ast.For, ast.While, ast.If,
              ast.Raise, ast.Try, ast.ImportFrom, ast.Expr, ast.Pass, ast.Break, ast.Continue)
EXPRESSIONS = (ast.BoolOp, ast.BinOp, ast.UnaryOp, ast.Lambda, ast.IfExp, ast.Dict, ast.ListComp, ast.Compare,
               ast.Call, ast.Constant, ast.Attribute, ast.Subscript, ast.Name, ast.List, ast.Tuple, ast.Slice)
BUILTINS = ("len range enumerate zip min max sum abs sorted reversed int str bool list tuple dict isinstance ord repr "
            "any all divmod Exception ValueError KeyError").split()
METHODS = ("append clear copy count endswith extend find get index insert items join keys pop remove replace reverse "
           "setdefault split startswith strip update values bit_length").split()
WORDS = ("type typing typing_extensions enum Enum IntEnum StrEnum Flag IntFlag Generic Protocol ABC ABCMeta namedtuple "
         "NamedTuple TypedDict TYPE_CHECKING abstractmethod").split()


def trees():
    return [(path, ast.parse(path.read_text())) for path in FILES]


def nodes(kind):
    return [(path, node) for path, tree in trees() for node in ast.walk(tree) if isinstance(node, kind)]


class Language(unittest.TestCase):
    def test_files(self):
        self.assertIn(PACKAGE / "__init__.py", FILES)
        for path in PACKAGE.iterdir():
            if path.name != "__pycache__":
                self.assertRegex(path.name, r"^[a-z0-9_]+\.py$")

    def test_signs_and_sizes(self):
        for path in FILES:
            lines = path.read_text().split("\n")
            self.assertLessEqual(len(lines), 400, path)
            for line in lines:
                self.assertRegex(line, r"^[ -~]{0,120}$", path)
        for path, node in nodes(ast.FunctionDef):
            self.assertLessEqual(node.end_lineno - node.lineno + 1, 40, (path, node.name))
            self.assertEqual(node.decorator_list, [])

    def test_words_that_stand_nowhere(self):
        for path in FILES:
            for word in re.findall(r"\w+", path.read_text()):
                self.assertNotIn(word, WORDS, path)

    def test_imports(self):
        tops = {path.stem: {node.name for node in tree.body if isinstance(node, (ast.FunctionDef, ast.ClassDef))}
                | {node.targets[0].id for node in tree.body if isinstance(node, ast.Assign)} for path, tree in trees()}
        drawn = {path.stem: set() for path in FILES}
        for path, node in nodes(ast.ImportFrom):
            self.assertRegex(node.module, r"^tidebooks\.\w+$")
            self.assertEqual(node.level, 0)
            source = node.module.split(".")[1]
            drawn[path.stem].add(source)
            for name in node.names:
                self.assertIn(name.name, tops[source], path)
        # Files that draw from none that's left are taken away until none is left: so there's no circle.
        while drawn:
            ends = [stem for stem in drawn if not drawn[stem] & set(drawn)]
            self.assertTrue(ends, drawn)
            for stem in ends:
                drawn.pop(stem)

    def test_is_and_keywords(self):
        for path, node in nodes(ast.Compare):
            if isinstance(node.ops[0], (ast.Is, ast.IsNot)):
                self.assertIn(getattr(node.comparators[0], "value", 0), (None, True, False), (path, node.lineno))
        for path, node in nodes(ast.Call):
            self.assertEqual(node.keywords, [], (path, node.lineno))

    def test_views_are_walked_on_the_spot(self):
        takers = ("list", "tuple", "dict", "sorted", "sum", "any", "all", "enumerate", "zip")
        walked = [(path, node.iter) for path, node in nodes((ast.For, ast.comprehension))]
        walked += [(path, part) for path, node in nodes(ast.Call) for part in node.args[:1]
                   if isinstance(node.func, ast.Name) and node.func.id in takers]
        spots = {(path, node.lineno, node.col_offset) for path, node in walked}
        for path, node in nodes(ast.Call):
            called = node.func.attr if isinstance(node.func, ast.Attribute) else getattr(node.func, "id", "")
            if called in ("items", "keys", "values", "zip", "enumerate", "reversed", "range"):
                self.assertIn((path, node.lineno, node.col_offset), spots)

    def test_statements_and_expressions(self):
        for path, node in nodes(ast.stmt):
            self.assertIsInstance(node, STATEMENTS, (path, node.lineno))
        for path, node in nodes(ast.expr):
            self.assertIsInstance(node, EXPRESSIONS, (path, node.lineno))
        for path, node in nodes(ast.Assign):
            self.assertEqual(len(node.targets), 1)
        for path, node in nodes((ast.For, ast.While, ast.Try)):
            self.assertFalse(isinstance(node, (ast.For, ast.While)) and node.orelse, (path, node.lineno))
            self.assertFalse(isinstance(node, ast.Try) and node.finalbody, (path, node.lineno))
        for path, node in nodes(ast.Constant):
            self.assertIn(type(node.value), (int, str, bool, type(None)), (path, node.lineno))
        for path, node in nodes(ast.BinOp):
            self.assertNotIsInstance(node.op, ast.Div, (path, node.lineno))

    def test_names(self):
        defined = {node.name for path, node in nodes((ast.FunctionDef, ast.ClassDef))}
        defined |= {name.name for path, node in nodes(ast.ImportFrom) for name in node.names}
        defined |= {node.arg for path, node in nodes(ast.arg)}
        defined |= {node.id for path, node in nodes(ast.Name) if isinstance(node.ctx, ast.Store)}
        for name in defined - {"__init__"}:
            self.assertRegex(name, r"^[A-Za-z]\w*$")
            self.assertNotIn(name, dir(__builtins__) if not isinstance(__builtins__, dict) else __builtins__)
        for path, node in nodes(ast.Name):
            self.assertIn(node.id, defined | set(BUILTINS), (path, node.lineno))

    def test_methods_and_values(self):
        own = {part.name for path, node in nodes(ast.ClassDef) for part in node.body
               if isinstance(part, ast.FunctionDef)}
        values = {node.attr for path, node in nodes(ast.Attribute) if isinstance(node.ctx, ast.Store)}
        self.assertEqual(own & values, set())
        for python in (str, int, list, dict, set, bytes):
            self.assertEqual((own - {"__init__"} | values) & set(dir(python)), set())
        for path, node in nodes(ast.Attribute):
            self.assertIn(node.attr, own | values | set(METHODS), (path, node.lineno))

    def test_the_top_of_a_file(self):
        for path, tree in trees():
            bound = [node.targets[0].id for node in tree.body if isinstance(node, ast.Assign)]
            bound += [node.name for node in tree.body if isinstance(node, (ast.FunctionDef, ast.ClassDef))]
            self.assertEqual(len(bound), len(set(bound)), path)
            for node in tree.body:
                if isinstance(node, ast.Assign):
                    self.assertIsInstance(node.value, (ast.Constant, ast.Tuple, ast.UnaryOp), (path, node.lineno))


if __name__ == "__main__":
    unittest.main()
