"""That the package keeps to LANGUAGE.md where a test can see it, and that the test would see it."""

import os
import unittest

import class_rules
import language_rules as rules
import object_rules

ROOT = os.path.dirname(os.path.dirname(os.path.abspath(__file__)))
FOLDER = os.path.join(ROOT, rules.PACKAGE)


def file_names():
    # Python's own cache is no part of the package; git does not keep it.
    return sorted([name for name in os.listdir(FOLDER) if name != "__pycache__"])


def package_texts():
    """From each module of the package to the text of its file."""
    texts = {}
    for name in file_names():
        with open(os.path.join(FOLDER, name), encoding="utf-8", newline="") as file:
            texts[f"{rules.PACKAGE}.{name.removesuffix('.py')}"] = file.read()
    return texts


class PackageTest(unittest.TestCase):
    def test_files(self):
        self.assertEqual(rules.file_name_faults(file_names()), [])
        for name in file_names():
            self.assertTrue(os.path.isfile(os.path.join(FOLDER, name)), name)

    def test_the_files_of_the_interface_exist(self):
        for name in ["errors.py", "names.py", "rationals.py", "sheets.py", "spaces.py", "settings.py", "holding.py",
                     "states.py", "replicas.py", "joining.py", "groups.py", "wishes.py", "texts.py", "console.py"]:
            self.assertIn(name, file_names())

    def test_texts(self):
        texts = package_texts()
        defined = {module: rules.defined_names(text) for module, text in texts.items()}
        for module, text in texts.items():
            self.assertEqual(rules.text_faults(text, defined), [], module)

    def test_classes_and_calls(self):
        texts = package_texts()
        for module, text in texts.items():
            self.assertEqual(class_rules.class_faults(text), [], module)
            self.assertEqual(object_rules.object_faults(text), [], module)
        self.assertEqual(class_rules.package_faults(texts), [])

    def test_no_circle_of_imports(self):
        self.assertEqual(rules.circle_faults(package_texts()), [])


GOOD = '''"""A file."""

from lastheld.names import is_name

LIMIT = 3


def first_of(values):
    """The first value."""
    return [value for value in values if is_name(value) and value is not None][0]
'''
DEFINED = {"lastheld.names": {"is_name", "is_integer"}}
BAD_FILES = [
    ["names.py"], ["__init__.py", "Names.py"], ["__init__.py", "notes.txt"], ["__init__.py", "test_x.py"],
    ["__init__.py", "len.py"], ["__init__.py", "type.py"], ["__init__.py", "a-b.py"],
    ["__init__.py"] + [f"a{at}.py" for at in range(100)],
]
BAD_TEXTS = [
    "import sys\n", "import lastheld.names\n", "from os import path\n", "from math import gcd\n",
    "from lastheld.names import *\n", "from .names import is_name\n", "from lastheld import names\n",
    "from lastheld.names import other\n", "from lastheld.others import is_name\n",
    "A = 1\nfrom lastheld.names import is_name\n", "def f():\n    from lastheld.names import is_name\n",
    "A = '\t'\n", "if 1:\n\tpass\n", "A = 1\r\n", "# \u00e4\n", "A = '\x7f'\n",
    "# " + "a" * 119 + "\n", "A = 1\n" + "\n" * 399, "def f():\n" + "    pass\n" * 40,
    "class A:\n    @property\n" + "    def f(self):\n" + "        pass\n" * 39,
    "# a type\n", "A = 'enum'\n", '"""Uses typing."""\n', "# ABC\n", "# dataclasses\n", "# overloaded\n", "Flag = 1\n",
    "def f(a):\n    return a.mro\n", "def register():\n    pass\n", "def f(open):\n    pass\n", "def f(id):\n    pass\n",
    "def f(_a):\n    pass\n", "_A = 1\n", "len = 1\n", "def f(list):\n    pass\n", "def f(a):\n    return a.tb_next\n",
    "def f(a):\n    return getattr(a, 'b')\n", "def f(a):\n    print(a)\n", "def f(a):\n    return chr(a)\n",
    "def f(a):\n    return pow(a, 2)\n", "def f(a):\n    return map(a, a)\n",
    "A = 1\nA = 2\n", "A, B = 1, 2\n", "A = B = 1\n", "for k in (1, 2):\n    pass\n", "print('a')\n", "A = 1\nA += 1\n",
    "def f():\n    global A\n    A = 1\n", "async def f():\n    pass\n", "def f(a):\n    return a / 2\n",
    "def f(a):\n    a /= 2\n", "A = 1.5\n", "A = 'a%b'\n", "def f(a, b):\n    return a is b\n",
    "def f(a):\n    return 2 ** a\n", "A = 2 ** 65\n",
]


class RulesTest(unittest.TestCase):
    def test_a_good_text_has_no_faults(self):
        self.assertEqual(rules.text_faults(GOOD, DEFINED), [])
        self.assertEqual(rules.file_name_faults(["__init__.py", "names.py"]), [])

    def test_the_longest_good_texts_have_no_faults(self):
        for text in ["# " + "a" * 118 + "\n", "A = 1\n" + "\n" * 398, "def f():\n" + "    pass\n" * 39]:
            self.assertEqual(rules.text_faults(text, DEFINED), [])

    def test_each_bad_text_has_a_fault(self):
        for text in BAD_TEXTS:
            self.assertNotEqual(rules.text_faults(text, DEFINED), [], text)

    def test_each_bad_folder_has_a_fault(self):
        for names in BAD_FILES:
            self.assertNotEqual(rules.file_name_faults(names), [], names)

    def test_circles(self):
        one = "from lastheld.b import x\n"
        two = "from lastheld.c import x\n"
        three = "from lastheld.a import x\n"
        self.assertEqual(rules.circle_faults({"lastheld.a": one, "lastheld.b": two, "lastheld.c": "x = 1\n"}), [])
        texts = {"lastheld.a": one, "lastheld.b": two, "lastheld.c": three}
        self.assertEqual(len(rules.circle_faults(texts)), 3)


GOOD_CLASS = '''"""A class."""

from lastheld.names import is_name


class Box:
    """A box."""

    MOST = 12

    def __init__(self, rows=(), most=-1):
        self.kept = [row for row in rows if is_name(row)]

    @classmethod
    def made(cls, text):
        """A box."""
        return cls(text.split(" "))

    def __eq__(self, other):
        return isinstance(other, Box) and self.kept == other.kept

    def __len__(self):
        return len(self.kept)

    def __repr__(self):
        return f"Box({self.kept!r})"

    @property
    def many(self):
        """How many."""
        return len(set(self.kept))

    @many.setter
    def many(self, value):
        self.kept = [value for at in range(value)]


def steps(xs):
    """Yield each."""
    for at, x in enumerate(xs):
        yield (at, x)


def total(xs):
    """The sum."""
    seen = set()
    for at, x in steps(xs):
        seen.add(x)
    if not seen:
        raise ValueError("none")
    return sum([at for at, x in steps(xs)]) + len(sorted(seen, reverse=True))
'''
BAD_CLASSES = [
    "class A:\n    def __hash__(self):\n        return 1\n", "def __eq__(self, other):\n    return True\n",
    "class A:\n    def __getattr__(self, name):\n        return 1\n",
    "def over(f):\n    return f\n\n\n@over\ndef g():\n    pass\n",
    "class A:\n    @property\n    @staticmethod\n    def f():\n        pass\n",
    "def over(f):\n    return f\n\n\n@over\nclass A:\n    pass\n",
    "def f(a=[]):\n    pass\n", "def f(a={}):\n    pass\n", "def f(*, a=len('a')):\n    pass\n", "def f(a, /):\n    pass\n",
    "def f(xs):\n    return any(x for x in xs)\n", "def f(xs):\n    return sorted(x for x in xs)\n",
    "def f(xs):\n    return max(xs, base=1)\n", "def f(x):\n    return int(x, base=2)\n",
    "def f(xs):\n    rows = zip(xs, xs)\n    return rows\n", "def f(d):\n    return d.items()\n",
    "def f(k):\n    return range(k)\n", "def f(d):\n    return d.keys() == 1\n", "def f(xs):\n    return set(enumerate(xs))\n",
    "def f(e):\n    raise e\n", "def f(self):\n    raise self.wrong()\n", "def f():\n    raise ValueError\n",
    "def f():\n    try:\n        pass\n    except Exception:\n        pass\n",
    "def f():\n    try:\n        pass\n    except:\n        pass\n",
    "def f():\n    try:\n        pass\n    except (KeyError, TypeError):\n        pass\n",
    "def f(xs):\n    return set(xs)\n", "def f(xs):\n    return [x for x in set(xs)]\n", "def f(xs):\n    return frozenset(xs)\n",
    "def f(xs):\n    return list({x for x in xs})\n",
    "class A:\n    def __init__(self):\n        return None\n",
    "class A:\n    def __init__(self):\n        self.a = sorted([1], key=lambda x: -x)\n",
    "class A:\n    def __len__(self):\n        return self.a\n", "class A:\n    def __repr__(self):\n        return 'a' + 'b'\n",
    "class A:\n    def __str__(self):\n        text = 'a'\n        return str(text)\n",
    "class A:\n    def __eq__(self, other):\n        self.a = 1\n        return True\n",
    "from lastheld.names import is_name\n\n\ndef f(is_name):\n    pass\n",
    "class A:\n    pass\n\n\ndef f():\n    A = 1\n", "class A:\n    def f(self):\n        pass\n\n    def f(self):\n        pass\n",
]
STEPS = "def steps(xs):\n    yield 1\n\n\n"
BAD_PACKAGES = [
    STEPS + "def f(xs):\n    return steps(xs)\n", STEPS + "def f(xs):\n    kept = steps(xs)\n    return list(kept)\n",
    STEPS + "def f(xs):\n    return list(xs, key=steps)\n", STEPS + "def f(xs):\n    return len(steps(xs))\n",
    STEPS + "def f(xs):\n    return [*steps(xs)]\n", "def f(xs):\n    x = yield xs\n    return\n",
    "class A:\n    def f(self):\n        pass\n\n\nclass B:\n    def __init__(self):\n        self.f = 1\n",
    "class A:\n    MOST = 1\n\n    def __init__(self):\n        self.MOST = 2\n", "def f(a):\n    return a.unknown\n",
    "def f(a):\n    return a.intersection(a)\n", "def f(a):\n    return a.to_bytes(2, 'big')\n",
]


class ClassRulesTest(unittest.TestCase):
    def test_a_good_text_has_no_faults(self):
        self.assertEqual(class_rules.class_faults(GOOD_CLASS), [])
        self.assertEqual(class_rules.package_faults({"lastheld.a": GOOD_CLASS}), [])
        self.assertEqual(rules.text_faults(GOOD_CLASS, DEFINED), [])

    def test_each_bad_text_has_a_fault(self):
        for text in BAD_CLASSES:
            self.assertNotEqual(class_rules.class_faults(text), [], text)

    def test_each_bad_package_has_a_fault(self):
        for text in BAD_PACKAGES:
            self.assertNotEqual(class_rules.package_faults({"lastheld.a": text}), [], text)

    def test_faults_of_two_files_together(self):
        one = "class A:\n    def f(self):\n        pass\n"
        two = "class B:\n    def __init__(self):\n        self.f = 1\n"
        self.assertNotEqual(class_rules.package_faults({"lastheld.a": one, "lastheld.b": two}), [])


GOOD_OBJECTS = '''"""Classes and tables."""

from lastheld.errors import Bad


def doubled(x):
    """Twice."""
    return x + x


ACTIONS = {"double": doubled}
FORMS = {"double": ("A", "B")}


class Box:
    """A box."""

    MOST = 3
    LEAST = -1

    def __init__(self, rows):
        self.kept = list(rows)

    @staticmethod
    def is_row(x):
        """Whether it is a row."""
        return isinstance(x, (str, Box))

    @property
    def many(self):
        """How many."""
        return len(self.kept)

    def told(self, *words):
        """What is told."""
        action = ACTIONS["double"]
        try:
            return action(*words)
        except (KeyError, Bad) as error:
            raise Bad(FORMS.get("double")) from error


class Crate(Box):
    """A crate."""

    def __init__(self, rows, most):
        super().__init__(rows)
        self.most = most

    def told(self, *words):
        """What is told."""
        if "double" in FORMS:
            raise Bad("x") from None
        return super().told(*words)
'''
BAD_OBJECTS = [
    "class A(object):\n    pass\n", "class A(dict):\n    pass\n", "class A(B):\n    pass\n\n\nclass B:\n    pass\n",
    "class B:\n    pass\n\n\nclass A(B, ValueError):\n    pass\n", "class A(metaclass=B):\n    pass\n",
    "def f():\n    class A:\n        pass\n", "class A:\n    def f(self):\n        return super().x\n",
    "class A:\n    def f(self):\n        return super().__len__()\n", "class A:\n    def f(self):\n        super().__init__()\n",
    "class A:\n    def f(self):\n        return super(A, self).f()\n",
    "class A:\n    def f(self):\n        return [super().f() for x in self.a]\n",
    "class A:\n    def f(self):\n        return lambda: super().f()\n",
    "class A:\n    @classmethod\n    def f(cls):\n        return super().f()\n",
    "class A:\n    @property\n    def f(self, x):\n        return x\n",
    "class A:\n    @property\n    def f(self):\n        self.x = 1\n        return 1\n",
    "class A:\n    @property\n    def f(self):\n        self.x[0] = 1\n        return 1\n",
    "class A:\n    @staticmethod\n    def f(x):\n        yield x\n",
    "class A:\n    X = []\n", "class A:\n    X = 1\n    X = 2\n", "class A:\n    X, Y = 1, 2\n", "class A:\n    x: int = 1\n",
    "class A(ValueError):\n    X = 1\n", "class A:\n    if 1:\n        pass\n",
    "def f(xs):\n    return f(*[x for x in xs])\n", "def f(xs):\n    return f(*list(xs))\n", "def f(d):\n    return f(**d.x())\n",
    "def f(d):\n    return f(a=1, **d)\n", "class A:\n    pass\n\n\ndef f():\n    return A\n",
    "class A:\n    pass\n\n\ndef f():\n    return [A]\n", "class A:\n    pass\n\n\ndef f():\n    return isinstance(A, str)\n",
    "from lastheld.x import Box\n\n\ndef f(g):\n    return g(Box)\n",
    "X = [[1]]\n", "X = {'a': {}}\n", "X = [1]\n\n\ndef f():\n    return X\n", "X = [1]\n\n\ndef f():\n    X.append(1)\n",
    "X = {}\n\n\ndef f(k):\n    X[k] = 1\n", "X = {}\n\n\ndef f(k):\n    return X[k](1)\n", "X = {}\n\n\ndef f(k):\n    return k(X)\n",
    "def f(x):\n    raise KeyError('a') from x.y\n", "def f(x):\n    raise KeyError('a') from x[0]\n",
    "def f():\n    try:\n        pass\n    except KeyError as e:\n        e = 1\n",
]


class ObjectRulesTest(unittest.TestCase):
    def test_a_good_text_has_no_faults(self):
        self.assertEqual(object_rules.object_faults(GOOD_OBJECTS), [])
        self.assertEqual(object_rules.object_faults(GOOD_CLASS), [])
        self.assertEqual(class_rules.class_faults(GOOD_OBJECTS), [])

    def test_each_bad_text_has_a_fault(self):
        for text in BAD_OBJECTS:
            self.assertNotEqual(object_rules.object_faults(text), [], text)


if __name__ == "__main__":
    unittest.main()
