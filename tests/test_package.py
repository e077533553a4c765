"""What the package's files may hold, and that nothing is read, printed or imported."""

import ast
import inspect
import os
import re
import subprocess
import sys
import unittest

import flaghoistsdesk
from flaghoistsdesk.locker import many, means, nth, number, shows
from texts import locker

FOLDER = os.path.dirname(os.path.abspath(flaghoistsdesk.__file__))
FILES = [os.path.join(FOLDER, name) for name in sorted(os.listdir(FOLDER)) if name != "__pycache__"]
WORDS = ("type typing typing_extensions enum Enum IntEnum StrEnum Flag IntFlag Generic Protocol ABC ABCMeta namedtuple "
         "NamedTuple TypedDict TYPE_CHECKING abstractmethod").split()
CALLED = "len range enumerate ord sum min max list".split()


def contents(path):
    with open(path, encoding="utf-8") as source:
        return source.read()


class Interface(unittest.TestCase):
    def check(self, call, arguments):
        self.assertEqual(list(inspect.signature(call).parameters), arguments)
        self.assertEqual(call.__module__, "flaghoistsdesk.locker")

    def test_means(self):
        self.check(means, ["t", "h"])

    def test_shows(self):
        self.check(shows, ["t", "lens", "signs"])

    def test_many(self):
        self.check(many, ["m", "t"])

    def test_nth(self):
        self.check(nth, ["m", "i", "t"])

    def test_number(self):
        self.check(number, ["t", "row"])


class Files(unittest.TestCase):
    def test_only_plain_files(self):
        for path in FILES:
            self.assertRegex(os.path.basename(path), r"\A[a-z0-9_]+\.py\Z")

    def test_sizes_and_signs(self):
        for path in FILES:
            lines = contents(path).split("\n")
            self.assertLessEqual(len(lines), 401, path)
            for line in lines:
                self.assertLessEqual(len(line), 120, path)
                self.assertRegex(line, r"\A[ -~]*\Z", path)
            for node in ast.walk(ast.parse(contents(path))):
                if isinstance(node, ast.FunctionDef):
                    self.assertLessEqual(node.end_lineno - node.lineno + 1, 40, node.name)

    def test_words_left_out(self):
        for path in FILES:
            for word in WORDS:
                self.assertIsNone(re.search(rf"\b{word}\b", contents(path)), (path, word))

    def test_names_begin_with_no_underscore(self):
        for path in FILES:
            for node in ast.walk(ast.parse(contents(path))):
                for field in ("id", "name", "arg", "attr"):
                    name = getattr(node, field, None)
                    if isinstance(name, str) and name != "__init__":
                        self.assertFalse(name.startswith("_"), (path, name))

    def test_few_of_the_names_of_python_are_used(self):
        own = dir(__builtins__) if not isinstance(__builtins__, dict) else list(__builtins__)
        for path in FILES:
            for node in ast.walk(ast.parse(contents(path))):
                if isinstance(node, ast.Name) and node.id in own:
                    self.assertIn(node.id, CALLED, path)

    def test_nothing_from_outside_is_imported(self):
        for path in FILES:
            for node in ast.walk(ast.parse(contents(path))):
                self.assertNotIsInstance(node, ast.Import, path)
                if isinstance(node, ast.ImportFrom):
                    self.assertEqual((node.module or "").split(".")[0], "flaghoistsdesk", path)


class Quiet(unittest.TestCase):
    def check(self, calls, answered):
        program = (
            "import sys\n"
            "from flaghoistsdesk.locker import *\n"
            "t = list(b'locker L\\nsign X 1 square 0123456789abcdef\\n')\n"
            "seen = []\n"
            "loaded = sorted(sys.modules)\n"
            "sys.addaudithook(lambda event, args: seen.append(event))\n"
            f"got = [{calls}]\n"
            "told = list(seen)\n"
            f"sys.exit(0 if got == {answered} and told == [] and sorted(sys.modules) == loaded else 1)\n"
        )
        done = subprocess.run([sys.executable, "-c", program], cwd=os.path.dirname(FOLDER), capture_output=True,
                              stdin=subprocess.DEVNULL)
        self.assertEqual((done.returncode, done.stdout, done.stderr), (0, b"", b""))

    def test_means(self):
        self.check("means(t, [0]), means(t, []), means([], [0]), means([10] * 65537, [0])", [[1, 0], [-1], [-6], [-2]])

    def test_shows(self):
        self.check("shows(t, [1], [0]), shows(t, [2], [0, 0]), shows(t, [1], [1]), shows(t, [], []), shows([], [], [])",
                   [[1, 0, 0], [-5], [-4], [-1], [-6]])

    def test_many(self):
        self.check("many(1, t), many(4, t), many(5, t), many(1, [])", [[0, 1], [0, 0], [-1], [-6]])

    def test_nth(self):
        self.check("nth(1, 0, t), nth(1, 1, t), nth(5, 0, t), nth(1, 0, [])", [[1, 0], [-4], [-1], [-6]])

    def test_number(self):
        self.check("number(t, [0]), number(t, [0, 0]), number(t, [1]), number(t, []), number([], [])",
                   [[0, 0], [-5], [-4], [-1], [-6]])


class Depth(unittest.TestCase):
    TEXTS = ([10] * 65536, [32] * 65536, [65] * 65536)

    def check(self, call, answered):
        before = sys.getrecursionlimit()
        sys.setrecursionlimit(len(inspect.stack()) + 60)
        try:
            got = call()
        finally:
            sys.setrecursionlimit(before)
        self.assertEqual(got, answered)

    def test_means(self):
        self.check(lambda: [means(t, [0]) for t in self.TEXTS], [[-6]] * 3)

    def test_shows(self):
        self.check(lambda: [shows(t, [1], [0]) for t in self.TEXTS], [[-6]] * 3)
        t = locker([8] * 48, [(1, 8), (2, 8), (3, 8), (4, 8)], [1])
        self.check(lambda: shows(t, [8] * 4, [0] * 8 + [1] * 8 + [2] * 8 + [3] * 8),
                   [32, 0] + [0] * 8 + [1] * 8 + [2] * 8 + [3] * 8)

    def test_many(self):
        self.check(lambda: [many(4, t) for t in self.TEXTS], [[-6]] * 3)
        t = locker([1] * 48, [(1, 8), (2, 8), (3, 8), (4, 8)], [1])
        self.check(lambda: many(4, t), [0, 48 ** 4])

    def test_nth(self):
        self.check(lambda: [nth(4, 0, t) for t in self.TEXTS], [[-6]] * 3)
        t = locker([1] * 48, [(1, 8), (2, 8), (3, 8), (4, 8)], [1])
        self.check(lambda: nth(4, 48 ** 4 - 1, t), [4, 47, 47, 47, 47])

    def test_number(self):
        self.check(lambda: [number(t, [0]) for t in self.TEXTS], [[-6]] * 3)
        t = locker([1] * 48, [(1, 8), (2, 8), (3, 8), (4, 8)], [1])
        self.check(lambda: number(t, [47, 47, 47, 47]), [0, 48 ** 4 - 1])


if __name__ == "__main__":
    unittest.main()
