import os
import unittest

from tests.language import FOLDER
from tests.language import File
from tests.language import faults_of
from tests.language import package_files

# One row of code for each rule that is looked at, so that a look that sees nothing is seen.
FAULTY = [
    ("L2", "from arrayloom.cells import *\n"),
    ("L3", "print(1)\n"),
    ("L4", "def f(*xs):\n    return xs\n"),
    ("L4", "def g(x):\n    return x\n\n\n@g\ndef f(x):\n    return x\n"),
    ("L5", "class A:\n    x = 1\n"),
    ("L6/L7", "def f(x):\n    with x:\n        pass\n"),
    ("L6/L7", "def f(x):\n    assert x\n"),
    ("L6/L7", "def f(xs):\n    return {x: 1 for x in xs}\n"),
    ("L6/L7", "def f(xs):\n    return any(x for x in xs)\n"),
    ("L6/L7", "def f(xs):\n    return [*xs]\n"),
    ("L6", "def f(xs):\n    for x in xs:\n        pass\n    else:\n        pass\n"),
    ("L6", "def f(x):\n    a = b = x\n    return a + b\n"),
    ("L6", "def f(x):\n    x + 1\n"),
    ("L7", "def f(x):\n    return x / 2\n"),
    ("L7", "def f():\n    return 1.5\n"),
    ("L7", "def f(x):\n    return [a for b in x for a in b]\n"),
    ("L7", "def f(x):\n    return f'{x.y}'\n"),
    ("L8/L17", "def f(x):\n    return hash(x)\n"),
    ("L10", "def f(x):\n" + "    x = x\n" * 40),
    ("L10", "# " + "x" * 120 + "\n"),
    ("L12", "def f(_x):\n    return 1\n"),
    ("L14", "# \u00e4\n"),
    ("L14", "def f(x):\n\treturn x\n"),
    ("L15", "def f(min):\n    return min\n"),
    ("L15", "XS = [[1]]\n"),
    ("L16", "import os\n"),
    ("L16", "from arrayloom.cells import nothing\n"),
    ("L17", "# the type of a thing\n"),
    ("L18/L26", "class A:\n    def go(self):\n        return 1\n\n\n"
     "class B:\n    def __init__(self):\n        self.go = 1\n"),
    ("L18/L26", "class B:\n    def __init__(self):\n        self.items = 1\n"),
    ("L19", "def f(x):\n    try:\n        return x[0]\n    except Exception:\n        return 1\n"),
    ("L20", "def f(x):\n    return x is f\n"),
    ("L21", "def f(x: int):\n    return x\n"),
    ("L22", "def f(x):\n    g = len\n    return g(x)\n"),
    ("L23", "def f(x):\n    walk = zip(x, x)\n    return list(walk)\n"),
    ("L24", "def f(x):\n    kept = set(x)\n    return len(kept)\n"),
    ("L25", "def f(x):\n    return x.title()\n"),
    ("L25", "def f(x):\n    x.sort()\n"),
    ("L27", "def f(n):\n    return 2 ** n\n"),
    ("L7", "def f():\n    return '5 %'\n"),
    ("L13", "def f(x):\n    return len({1, 2, 3})\n"),
    ("L13", "def f(x):\n    return [lambda a: a, lambda a: 1]\n"),
    ("L15", "XS = [1]\n\n\ndef f(x):\n    XS.append(x)\n"),
    ("L15", "XS = [1]\n\n\ndef f(x):\n    XS[0] = x\n"),
    ("L15", "XS = {1: 2}\n\n\ndef f():\n    return XS\n"),
    ("L19", "def f(x):\n    try:\n        return f(x[0])\n    except IndexError:\n        return 1\n"),
    ("L19", "def f(x):\n    try:\n        y = int(x)\n        return y\n    except ValueError:\n        return 1\n"),
    ("L22", "def f(x):\n    return x.split(sep=' ')\n"),
    ("L22", "def f(x):\n    return isinstance(x, set)\n"),
    ("L23", "def f(xs):\n    for x in xs:\n        xs.append(x)\n"),
    ("L23", "def f(d):\n    for k, v in d.items():\n        d[k] = 1\n"),
    ("L23", "def f(xs):\n    for k, x in enumerate(xs):\n        xs[k] = 1\n"),
    ("L27", "def f():\n    return '\\x41'\n"),
    ("L27", "def f():\n    return r'a'\n"),
    ("L28", "class A:\n    def __init__(self):\n        return None\n"),
    ("L28", "class A:\n    def __len__(self):\n        self.x = 1\n        return 1\n"),
]


class Language(unittest.TestCase):
    def test_the_package_keeps_to_the_language(self):
        self.assertEqual(faults_of(package_files()), [])

    def test_the_package_holds_files_of_the_language_alone(self):
        names = sorted(name for name in os.listdir(FOLDER) if name != "__pycache__")
        self.assertIn("__init__.py", names)
        self.assertEqual([name for name in names if not name.endswith(".py")], [])

    def test_faulty_code_is_seen(self):
        for rule, text in FAULTY:
            with self.subTest(rule=rule, text=text):
                faults = faults_of([File("cells.py", "def cells_of():\n    return 1\n"), File("faulty.py", text)])
                self.assertIn(rule, [fault.split(" ")[1] for fault in faults])

    def test_a_circle_of_imports_is_seen(self):
        one = File("one.py", "from arrayloom.two import f\n\n\ndef g():\n    return f()\n")
        two = File("two.py", "from arrayloom.one import g\n\n\ndef f():\n    return g()\n")
        self.assertEqual(len(faults_of([one, two])), 2)


if __name__ == "__main__":
    unittest.main()
