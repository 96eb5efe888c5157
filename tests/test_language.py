"""That the package keeps to LANGUAGE.md where a test can see it, and that the test would see it."""

import os
import unittest

import language_rules as rules

ROOT = os.path.dirname(os.path.dirname(os.path.abspath(__file__)))
FOLDER = os.path.join(ROOT, rules.PACKAGE)


def file_names():
    # Python's own cache is no part of the package; git does not keep it.
    return sorted([name for name in os.listdir(FOLDER) if name != "__pycache__"])


def package_texts():
    """From each module of the package to the text of its file."""
    texts = {}
    for name in file_names():
        with open(os.path.join(FOLDER, name), encoding="utf-8", newline="") as file:
            texts[f"{rules.PACKAGE}.{name.removesuffix('.py')}"] = file.read()
    return texts


class PackageTest(unittest.TestCase):
    def test_files(self):
        self.assertEqual(rules.file_name_faults(file_names()), [])
        for name in file_names():
            self.assertTrue(os.path.isfile(os.path.join(FOLDER, name)), name)

    def test_the_files_of_the_interface_exist(self):
        for name in ["errors.py", "names.py", "rationals.py"]:
            self.assertIn(name, file_names())

    def test_texts(self):
        texts = package_texts()
        defined = {module: rules.defined_names(text) for module, text in texts.items()}
        for module, text in texts.items():
            self.assertEqual(rules.text_faults(text, defined), [], module)

    def test_no_circle_of_imports(self):
        self.assertEqual(rules.circle_faults(package_texts()), [])


GOOD = '''"""A file."""

from lastheld.names import is_name

LIMIT = 3


def first_of(values):
    """The first value."""
    return [value for value in values if is_name(value) and value is not None][0]
'''
DEFINED = {"lastheld.names": {"is_name", "is_integer"}}
BAD_FILES = [
    ["names.py"], ["__init__.py", "Names.py"], ["__init__.py", "notes.txt"], ["__init__.py", "test_x.py"],
    ["__init__.py", "len.py"], ["__init__.py", "type.py"], ["__init__.py", "a-b.py"],
    ["__init__.py"] + [f"a{at}.py" for at in range(100)],
]
BAD_TEXTS = [
    "import sys\n", "import lastheld.names\n", "from os import path\n", "from math import gcd\n",
    "from lastheld.names import *\n", "from .names import is_name\n", "from lastheld import names\n",
    "from lastheld.names import other\n", "from lastheld.others import is_name\n",
    "A = 1\nfrom lastheld.names import is_name\n", "def f():\n    from lastheld.names import is_name\n",
    "A = '\t'\n", "if 1:\n\tpass\n", "A = 1\r\n", "# \u00e4\n", "A = '\x7f'\n",
    "# " + "a" * 119 + "\n", "A = 1\n" + "\n" * 399, "def f():\n" + "    pass\n" * 40,
    "class A:\n    @property\n" + "    def f(self):\n" + "        pass\n" * 39,
    "# a type\n", "A = 'enum'\n", '"""Uses typing."""\n', "# ABC\n", "# dataclasses\n", "# overloaded\n", "Flag = 1\n",
    "def f(a):\n    return a.mro\n", "def register():\n    pass\n", "def f(open):\n    pass\n", "def f(id):\n    pass\n",
    "def f(_a):\n    pass\n", "_A = 1\n", "len = 1\n", "def f(list):\n    pass\n", "def f(a):\n    return a.tb_next\n",
    "def f(a):\n    return getattr(a, 'b')\n", "def f(a):\n    print(a)\n", "def f(a):\n    return chr(a)\n",
    "def f(a):\n    return pow(a, 2)\n", "def f(a):\n    return map(a, a)\n",
    "A = 1\nA = 2\n", "A, B = 1, 2\n", "A = B = 1\n", "for k in (1, 2):\n    pass\n", "print('a')\n", "A = 1\nA += 1\n",
    "def f():\n    global A\n    A = 1\n", "async def f():\n    pass\n", "def f(a):\n    return a / 2\n",
    "def f(a):\n    a /= 2\n", "A = 1.5\n", "A = 'a%b'\n", "def f(a, b):\n    return a is b\n",
    "def f(a):\n    return 2 ** a\n", "A = 2 ** 65\n",
]


class RulesTest(unittest.TestCase):
    def test_a_good_text_has_no_faults(self):
        self.assertEqual(rules.text_faults(GOOD, DEFINED), [])
        self.assertEqual(rules.file_name_faults(["__init__.py", "names.py"]), [])

    def test_the_longest_good_texts_have_no_faults(self):
        for text in ["# " + "a" * 118 + "\n", "A = 1\n" + "\n" * 398, "def f():\n" + "    pass\n" * 39]:
            self.assertEqual(rules.text_faults(text, DEFINED), [])

    def test_each_bad_text_has_a_fault(self):
        for text in BAD_TEXTS:
            self.assertNotEqual(rules.text_faults(text, DEFINED), [], text)

    def test_each_bad_folder_has_a_fault(self):
        for names in BAD_FILES:
            self.assertNotEqual(rules.file_name_faults(names), [], names)

    def test_circles(self):
        one = "from lastheld.b import x\n"
        two = "from lastheld.c import x\n"
        three = "from lastheld.a import x\n"
        self.assertEqual(rules.circle_faults({"lastheld.a": one, "lastheld.b": two, "lastheld.c": "x = 1\n"}), [])
        texts = {"lastheld.a": one, "lastheld.b": two, "lastheld.c": three}
        self.assertEqual(len(rules.circle_faults(texts)), 3)


if __name__ == "__main__":
    unittest.main()
