"""The rules of LANGUAGE.md that can be seen in a file by itself."""

import ast
import builtins
import os
import re
import unittest

FOLDER = os.path.join(os.path.dirname(os.path.dirname(os.path.abspath(__file__))), "linekept")

STATEMENTS = (ast.Assign, ast.AugAssign, ast.If, ast.While, ast.For, ast.Return, ast.Break, ast.Continue, ast.Pass,
              ast.Raise, ast.Try, ast.Expr, ast.FunctionDef, ast.ClassDef, ast.ImportFrom)
FORBIDDEN = (ast.Div, ast.Set, ast.SetComp, ast.DictComp, ast.GeneratorExp, ast.NamedExpr, ast.Starred)
NAMES = """len range enumerate zip min max sum abs sorted reversed int str bool list tuple dict set frozenset isinstance
    ord repr any all divmod None True False""".split()
METHODS = """append clear copy count endswith extend find get index insert isalnum isalpha isdigit islower isspace
    isupper items join keys ljust lower lstrip partition pop remove replace reverse rfind rjust rpartition rsplit rstrip
    setdefault split splitlines startswith strip update upper values zfill bit_length""".split()
WORDS = """type typing typing_extensions enum Enum IntEnum StrEnum Flag IntFlag Generic Protocol ABC ABCMeta namedtuple
    NamedTuple TypedDict TYPE_CHECKING abstractmethod""".split()
NOT_NAMED = """register mro elements open input version_info with_traceback add_note attrgetter breakpoint builtins
    compile copyright credits delattr dir eval exec exit gc getattr globals hasattr help id importlib license locals
    methodcaller os quit setattr super type vars sys""".split()
PYTHONS_OWN = {name for kind in (str, int, list, dict, set, bytes, tuple) for name in dir(kind)}


def sources():
    for name in sorted(os.listdir(FOLDER)):
        if name != "__pycache__":
            with open(os.path.join(FOLDER, name), encoding="utf-8", newline="") as file:
                yield name, file.read()


def plain_value(node):
    if isinstance(node, ast.Tuple):
        return all(plain_value(part) for part in node.elts)
    return isinstance(node, ast.Constant) and isinstance(node.value, (int, str))


class Files(unittest.TestCase):
    def test_names_signs_and_sizes(self):
        for name, text in sources():
            self.assertRegex(name, r"^[a-z0-9_]+\.py$")
            lines = text.split("\n")
            self.assertLessEqual(len(lines), 399, name)
            for line in lines:
                self.assertRegex(line, r"^[ -~]{0,120}$", name)
            for word in re.findall(r"\w+", text):
                self.assertNotIn(word, WORDS, name)

    def test_the_top(self):
        for name, text in sources():
            body = ast.parse(text).body
            self.assertIsInstance(body[0].value.value, str, name)
            bound = []
            for node in body[1:]:
                if isinstance(node, ast.ImportFrom):
                    self.assertTrue(node.module.startswith("linekept.") and node.level == 0, name)
                    bound += [alias.name for alias in node.names]
                elif isinstance(node, ast.Assign):
                    self.assertTrue(plain_value(node.value), (name, node.lineno))
                    bound.append(node.targets[0].id)
                else:
                    self.assertIsInstance(node, (ast.FunctionDef, ast.ClassDef), name)
                    bound.append(node.name)
            self.assertEqual(len(bound), len(set(bound)), name)

    def test_no_two_files_draw_from_one_another(self):
        draws = {name[:-3]: re.findall(r"^from linekept\.(\w+) import", text, re.M) for name, text in sources()}
        while draws:
            free = [name for name in draws if not set(draws[name]) & set(draws)]
            self.assertTrue(free, draws)
            draws = {name: draws[name] for name in draws if name not in free}


class Code(unittest.TestCase):
    def nodes(self):
        for name, text in sources():
            tree = ast.parse(text)
            own = {node.id for node in ast.walk(tree) if isinstance(node, ast.Name) and isinstance(node.ctx, ast.Store)}
            own |= {node.arg for node in ast.walk(tree) if isinstance(node, ast.arg)}
            own |= {node.name for node in ast.walk(tree)
                    if isinstance(node, (ast.FunctionDef, ast.ClassDef, ast.alias))}
            for node in list(ast.walk(tree))[1:]:
                yield f"{name}:{getattr(node, 'lineno', '')}", node, own

    def test_statements_and_expressions(self):
        for place, node, _ in self.nodes():
            if isinstance(node, ast.stmt):
                self.assertIsInstance(node, STATEMENTS, place)
            self.assertNotIsInstance(node, FORBIDDEN, place)
            if isinstance(node, ast.Expr) and not isinstance(node.value, ast.Call):
                self.assertTrue(place.endswith(":1"), place)
            if isinstance(node, ast.Constant):
                self.assertNotIsInstance(node.value, (float, bytes, complex), place)
            if isinstance(node, (ast.For, ast.While)):
                self.assertEqual(node.orelse, [], place)
            if isinstance(node, ast.Assign):
                self.assertEqual(len(node.targets), 1, place)

    def test_functions(self):
        for place, node, _ in self.nodes():
            if isinstance(node, ast.FunctionDef):
                self.assertLessEqual(node.end_lineno - node.lineno + 1, 40, place)
                plain = node.args
                self.assertFalse(node.decorator_list or plain.vararg or plain.kwarg or plain.kwonlyargs
                                 or plain.posonlyargs, place)

    def test_names(self):
        for place, node, own in self.nodes():
            if isinstance(node, ast.Name):
                self.assertIn(node.id, own | set(NAMES), place)
                self.assertFalse(node.id.startswith("_") or node.id in NOT_NAMED, place)
                if isinstance(node.ctx, ast.Store):
                    self.assertNotIn(node.id, dir(builtins), place)
            if isinstance(node, ast.Attribute):
                self.assertNotIn(node.attr, NOT_NAMED, place)
                if isinstance(node.ctx, ast.Store):
                    self.assertNotIn(node.attr, PYTHONS_OWN, place)
                elif node.attr in PYTHONS_OWN:
                    self.assertIn(node.attr, METHODS, place)

    def test_no_name_is_a_method_and_a_value(self):
        methods, kept = set(), set()
        for _, node, _ in self.nodes():
            if isinstance(node, ast.ClassDef):
                names = [part.name for part in node.body]
                self.assertEqual(len(names), len(set(names)))
                methods |= set(names)
            if isinstance(node, ast.Attribute) and isinstance(node.ctx, ast.Store):
                kept.add(node.attr)
        self.assertEqual(methods & kept, set())
        self.assertEqual((methods - {"__init__"}) & PYTHONS_OWN, set())


if __name__ == "__main__":
    unittest.main()
