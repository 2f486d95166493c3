"""The rules of the language that a script can look after, and that the script sees what breaks them."""

import ast
import pathlib
import unittest

from tests import language

PACKAGE = pathlib.Path(__file__).resolve().parent.parent / "rootward"


def files():
    return {path.stem: path.read_text(encoding="utf-8") for path in sorted(PACKAGE.rglob("*.py"))}


def own_methods():
    found = []
    for text in files().values():
        for node in ast.walk(ast.parse(text)):
            if isinstance(node, ast.ClassDef):
                found.extend([one.name for one in node.body if isinstance(one, ast.FunctionDef)])
    return found


class FilesTest(unittest.TestCase):
    def test_nothing_else_in_the_folder(self):
        found = [path for path in PACKAGE.rglob("*") if "__pycache__" not in path.parts]
        self.assertEqual([], [path.name for path in found if path.suffix != ".py" and not path.is_dir()])
        self.assertLessEqual(len(found), 100)
        for path in found:
            self.assertTrue(path.stem.replace("_", "a").isalnum() and path.stem == path.stem.lower())
            self.assertNotIn(path.stem, language.BARRED_FILES + language.NOT_IN_FILES + language.BUILTIN_NAMES)

    def test_each_file(self):
        own = own_methods()
        for word, text in files().items():
            with self.subTest(file=word):
                self.assertEqual([], language.check_sizes(text))
                self.assertEqual([], language.check_signs(text))
                self.assertEqual([], language.check_words(text))
                self.assertEqual([], language.check_names(text))
                self.assertEqual([], language.check_imports(text))
                self.assertEqual([], language.check_statements(text))
                self.assertEqual([], language.check_expressions(text, own))
                self.assertEqual([], language.check_sets(text))

    def test_imports_go_one_way(self):
        self.assertEqual([], language.cycles(files()))

    def test_no_method_is_an_attribute(self):
        own = own_methods()
        for word, text in files().items():
            for node in ast.walk(ast.parse(text)):
                if isinstance(node, ast.Attribute) and isinstance(node.ctx, ast.Store):
                    self.assertNotIn(node.attr, own, word)


class ChecksTest(unittest.TestCase):
    def test_sizes(self):
        long = "def f():\n" + "    pass\n" * 40
        self.assertEqual([[], 1, 1, 1], [language.check_sizes("A = 1\n" * 399), *[
            len(language.check_sizes(text)) for text in ["A = 1\n" * 400, "A = 1" + " " * 116 + "\n", long]]])
        self.assertEqual([], language.check_sizes("def f():\n" + "    pass\n" * 39 + "A = 1" + " " * 115 + "\n"))

    def test_signs(self):
        for text in ["A = 1\t\n", "# \u00e4\n", "A = 1\r\n", "A = 1", "\x7f\n"]:
            self.assertEqual(1, len(language.check_signs(text)))

    def test_words(self):
        for text in ["def f(type):\n    pass\n", "A = 'an enum'\n", "overloaded = 1\n", "def f(a):\n    return a.mro\n",
                     "def f(id):\n    pass\n", "_record = 5\n", "_outside_2 = 5\n", "_law_a = 5\n", "__a = 1\n", "open = 1\n",
                     "def f(a):\n    return a.tb_next\n"]:
            self.assertNotEqual([], language.check_words(text), text)
        self.assertEqual([], language.check_words('"""The type."""\n# type\nA = "types"\n'))

    def test_names(self):
        for text in ["def f(next):\n    pass\n", "def hash():\n    pass\n", "from rootward.a import b\ndef f(b):\n    pass\n",
                     "from rootward.a import b\ndef f():\n    b = 1\n", "class A:\n    pass\ndef f():\n    A = 1\n",
                     "A = 1\nA = 2\n", "from rootward.a import b\ndef f(x):\n    return [b for b in x]\n"]:
            self.assertNotEqual([], language.check_names(text), text)

    def test_imports(self):
        for text in ["import sys\n", "from . import a\n", "from rootward.a import *\n", "from rootward.a import b as c\n",
                     "from os import path\n", "from heapq import merge\n", "def f():\n    from rootward.a import b\n"]:
            self.assertNotEqual([], language.check_imports(text), text)
        self.assertEqual([], language.check_imports("from heapq import heappop, heappush\nfrom rootward.a import b\n"))
        self.assertEqual(["a", "b"], language.cycles({"a": "from rootward.b import c\n", "b": "from rootward.a import d\n"}))

    def test_statements(self):
        for text in ["print(1)\n", "A = f(1)\n", "A, B = 1, 2\n", "async def f():\n    pass\n", "if 1:\n    pass\n",
                     "def f():\n    with a:\n        pass\n", "def f():\n    try:\n        pass\n    except A:\n        pass\n",
                     "def f():\n    raise a.b(1)\n", "@a\ndef f():\n    pass\n", "class A:\n    def __hash__(self):\n        pass\n"]:
            self.assertNotEqual([], language.check_statements(text), text)
        for caught in ["ValueError", "Exception", "(Unreadable, KeyError)", "a.Unreadable"]:
            text = "from rootward.errors import Unreadable\ndef f():\n    try:\n        g()\n    except " + caught + ":\n        pass\n"
            self.assertNotEqual([], language.check_statements(text), caught)
            self.assertEqual([], language.check_statements(text.replace(caught, "Unreadable")))

    def test_expressions(self):
        for row in ["any(a for a in b)", "1 / 2", "1.5", "'50%'", "b is b", "2 ** b", "eval(b)", "b.encode()", "lambda: b", "[*b]",
                    "unknown", "[_ for _ in b]", "map(b, b)"]:
            self.assertNotEqual([], language.check_expressions("def f(b):\n    return " + row + "\n", []), row)
        for row in ["any([a for a in b])", "1 // 2", "b is None", "2 ** 31", "b.get(1)", "[1 for _ in b]"]:
            self.assertEqual([], language.check_expressions("def f(b):\n    return " + row + "\n", []), row)

    def test_sets(self):
        for row in ["sorted({a for a in b}, reverse=True)", "set(b)", "[a for a in set(b)]", "f({1, 2})", "list({a for a in b})"]:
            self.assertNotEqual([], language.check_sets("def f(b):\n    return " + row + "\n"), row)
        for row in ["sorted({a for a in b})[::-1]", "len(set(b))", "b in {1, 2}", "b not in set(b)", "sorted(set([a for a in b]))"]:
            self.assertEqual([], language.check_sets("def f(b):\n    return " + row + "\n"), row)
