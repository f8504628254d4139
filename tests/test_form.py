"""All files of the package keep to the rules L1 to L28, and a breach of any of them would be found."""

import pathlib
import unittest

import form

FOLDER = pathlib.Path(__file__).resolve().parent.parent / form.PACKAGE

# A few words that break a rule, as the text of one file; `{` begins a whole package of several files.
BREACHES = {
    form.l1_files: ({"Store.py": ""}, {"a-b.py": ""}, {"1a.py": ""}),
    form.l2_imports: ("import sys", "import twoorders.errors", "from errors import a", "from . import rows",
                      "from twoorders.errors import *", "x = 1\nfrom twoorders.a import b", "from random import choice",
                      "def f():\n    from twoorders.a import b\n    return b", "from twoorders.__main__ import a"),
    form.l3_top: ("x = f()", "x = [1]", "x = {}", "print(1)", "if True:\n    x = 1", "for a in (1, 2):\n    pass",
                  "x = 1 + 1"),
    form.l4_functions: ("def f(*a):\n    pass", "def f(**a):\n    pass", "def f(*, a):\n    pass",
                        "def f(a, /):\n    pass", "def f(a=[]):\n    pass", "@g\ndef f():\n    pass"),
    form.l5_classes: ("class A(object):\n    pass", "class A(ValueError, KeyError):\n    pass",
                      "class A:\n    x = 1", "class A:\n    def __hash__(self):\n        return 1",
                      "@g\nclass A:\n    pass", "class A(metaclass=B):\n    pass", "class A:\n    'words'"),
    form.l6_statements: ("def f(a):\n    with a:\n        pass", "def f(a):\n    del a", "def f(a):\n    assert a",
                         "def f():\n    global x", "def f():\n    a = b = 1", "def f():\n    a, b = 1, 2",
                         "def f(a):\n    a", "def f(a):\n    for b in a:\n        pass\n    else:\n        pass",
                         "def f():\n    try:\n        pass\n    finally:\n        pass", "def f():\n    'words'",
                         "def f():\n    try:\n        pass\n    except:\n        pass", "async def f():\n    pass",
                         "def f(a):\n    match a:\n        case 1:\n            pass"),
    form.l7_expressions: ("x = 1.5", "x = b'a'", "x = 1j", "x = ...", "def f(a):\n    return a / 2",
                          "def f(a):\n    return {b for b in a}", "def f(a):\n    return {b: 1 for b in a}",
                          "def f(a):\n    return sum(b for b in a)", "def f(a):\n    return (b := a)",
                          "def f(a):\n    return [c for b in a for c in b]",
                          "def f(a):\n    return [b for b in a if b if b]", "def f(a):\n    return [*a]",
                          "def f(a):\n    return f'{a.b}'", "def f(a):\n    return f'{a:3}'",
                          "def f(a):\n    return f'{a!s}'", "def f(a):\n    yield a", "def f(a):\n    a /= 2"),
    form.l8_names: ("def f(a):\n    return map(a)", "def f(a):\n    return hash(a)", "def f(len):\n    return 1",
                    "def sorted(a):\n    return a", "def f(a):\n    return a.format(1)",
                    "def f():\n    return unknown"),
    form.l9_input_and_output: ("def f():\n    print(1)", "def f():\n    return input()", "def f():\n    open('a')"),
    form.l10_size: ("\n" * 400, "x = '" + "a" * 120 + "'", "def f():\n" + "    pass\n" * 40, "def f():\n\tpass"),
    form.l11_the_same_on_both: ("def f():\n    try:\n        g()\n    except KeyError as e:\n        return str(e)",
                                "def f(a):\n    return f(a)", "def f(a):\n    g(a)\ndef g(a):\n    a.f()"),
    form.l12_plain_names: ("_x = 1", "def f(_):\n    pass", "def _f():\n    pass", "def f(self):\n    self._a = 1",
                           "def f(a):\n    return [1 for _b in a]", "def f(a):\n    return a.__class__"),
    form.l13_two_forms: ("def f():\n    return {1, 2, 3}", "def f():\n    return (lambda a: 1, lambda a: 2)"),
    form.l14_files_and_signs: ({"a.py": ""}, {"__init__.py": "", "test_a.py": ""}, {"__init__.py": "", "site.py": ""},
                               {"__init__.py": "", "sum.py": ""}, "x = '\u00e9'", "# \u2014", "x = 1\r\n"),
    form.l15_each_name_once: ("x = 1\nx = 2", "def f():\n    pass\ndef f():\n    pass",
                              "def f():\n    class A:\n        pass", "def f(min):\n    pass",
                              "def f():\n    next = 1", "class A:\n    pass\ndef f(A):\n    pass",
                              "from twoorders.a import b\ndef f(b):\n    pass",
                              "def f(a):\n    return [1 for id in a]"),
    form.l16_imports: ({"a.py": "from twoorders.b import c", "b.py": "from twoorders.d import c", "d.py": "c = 1"},
                       {"a.py": "from twoorders.b import c\nd = 1", "b.py": "from twoorders.a import d\nc = 1"},
                       {"__init__.py": "x = 1"}, {"a.py": "from twoorders.b import c", "b.py": ""},
                       {"a.py": "from twoorders.b import c", "b.py": "from twoorders.e import f\nc = 1",
                        "e.py": "from twoorders.a import g\nf = 1"}),
    form.l17_names_not_used: ("# a type", "x = 'enum'", "# overloaded", "def f(a):\n    return a.mro",
                              "def f(a):\n    return getattr(a, 'b')", "def f(a):\n    return a.f_back",
                              "def f(os):\n    pass", "def vars():\n    pass", "def f(a):\n    return __name__"),
    form.l18_classes: ("class A:\n    pass\ndef f():\n    return A", "class A:\n    pass\ndef f():\n    return [A]",
                       "class A:\n    pass\ndef f(g):\n    return g(A)",
                       "class A:\n    def f(self):\n        pass\n    def f(self):\n        pass",
                       "class A:\n    def f(self):\n        pass\nclass B:\n    def g(self):\n        self.f = 1",
                       "class A(StopIteration):\n    pass", "class A:\n    pass\ndef f():\n    A.x = 1"),
    form.l19_errors: ("def f():\n    try:\n        g()\n    except Exception:\n        pass",
                      "def f():\n    try:\n        g()\n    except (KeyError, TypeError):\n        pass",
                      "def f():\n    try:\n        g()\n    except ValueError:\n        pass",
                      "def f():\n    raise ValueError('a')", "class A(ValueError):\n    pass\ndef f():\n    raise A",
                      "def f():\n    raise"),
    form.l20_is: ("def f(a, b):\n    return a is b", "def f(a):\n    return a is 'x'",
                  "def f(a):\n    return a is not 7"),
    form.l21_annotations: ("def f(a: int):\n    pass", "def f() -> int:\n    pass", "x: int = 1"),
    form.l22_pythons_own: ("def f():\n    return len", "def f(a):\n    g(a, sorted)",
                           "def f(a):\n    return sorted(a, x=1)",
                           "def f(a):\n    return max(a, key=repr)", "def f(a):\n    return int(a, base=2)",
                           "def f(a, b):\n    return sorted(a, reverse=b)", "def f(a):\n    a.pop(index=1)"),
    form.l23_walked_at_once: ("def f(a):\n    b = zip(a, a)\n    return b", "def f(a):\n    return range(a)",
                              "def f(a):\n    return len(a.items())", "def f(a):\n    return a.keys()",
                              "def f(a):\n    for b in a:\n        a.append(b)",
                              "def f(a):\n    for b in a.items():\n        a.pop(b)",
                              "def f(a):\n    for b in enumerate(a):\n        a[0] = b",
                              "def f(a):\n    for b in a.c:\n        a.c.remove(b)",
                              "def f(a):\n    for b in a:\n        a += [b]"),
    form.l24_sets: ("def f():\n    return {1}", "def f(a):\n    return set(a)", "def f(a):\n    return frozenset(a)"),
    form.l25_methods: ("def f(a):\n    a.sort()", "def f(a):\n    return a.title()", "def f(a):\n    g(a.append)",
                       "class A:\n    def m(self):\n        return self.m", "def f(a):\n    return a.popitem()"),
    form.l26_own_methods_and_values: ("class A:\n    def sort(self):\n        pass",
                                      "class A:\n    def encode(self):\n        pass",
                                      "def f(self):\n    self.items = 1",
                                      "def f(self):\n    self.args = 1", "def f(self):\n    self.pop = 1"),
    form.l27_numbers_and_texts: ("def f(n):\n    return 2 ** n", "def f(n):\n    return n ** 65", "x = 'a%b'",
                                 "def f(n):\n    return chr(n)", "x = '\\x41'", "x = '\\r'", "x = " + "1" * 901),
    form.l28_two_underscores: ("class A:\n    def __init__(self):\n        return None",
                               "class A:\n    def __eq__(self, other):\n        return True",
                               "class A:\n    def __len__(self):\n        return 1"),
}


def package_of(breach):
    if isinstance(breach, dict):
        return form.package_of(breach)
    return form.package_of({"__init__.py": "", "part.py": breach})


class TheFiles(unittest.TestCase):
    def test_nothing_but_files_of_python(self):
        self.assertTrue((FOLDER / "__init__.py").is_file())
        for path in FOLDER.rglob("*"):
            if "__pycache__" not in path.parts:
                self.assertTrue(path.is_file() and path.suffix == ".py", path)

    def test_the_files_of_the_interface_are_there(self):
        names = [path.name for path in FOLDER.glob("*.py")]
        for name in ("__init__", "errors", "rows", "order", "store", "questions", "day"):
            self.assertIn(name + ".py", names)

    def test_each_rule(self):
        package = form.package_of({path.name: path.read_bytes().decode("ascii") for path in FOLDER.glob("*.py")})
        for rule in form.RULES:
            with self.subTest(rule.__name__):
                self.assertEqual(rule(package), [])


class TheRules(unittest.TestCase):
    def test_there_are_twenty_eight(self):
        self.assertEqual([rule.__name__.split("_")[0] for rule in form.RULES],
                         ["l" + str(number) for number in range(1, 29)])
        self.assertEqual(set(form.RULES), set(BREACHES))

    def test_each_breach_is_found(self):
        for rule, breaches in BREACHES.items():
            for breach in breaches:
                with self.subTest(rule.__name__, breach=breach):
                    self.assertNotEqual(rule(package_of(breach)), [])


if __name__ == "__main__":
    unittest.main()
