"""Each example of the document as it prints it: examples.txt beside this file."""

import importlib
import pathlib
import re
import unittest

from tests.test_form import INTERFACE

FILES = (
    "errors", "tables", "spaces", "polys", "ptables", "plants", "plays", "ways", "sure", "learn", "sight", "sheets",
    "partings", "staying", "memory", "wires", "rest", "beside", "judge", "texts", "board", "desk",
)
HERE = pathlib.Path(__file__).parent


def all_names():
    names = {}
    for file in FILES:
        module = importlib.import_module("handsunread." + file)
        names.update({name: value for name, value in vars(module).items() if name in INTERFACE[file]})
    return names


def examples():
    """Triples (point, asked, told): told is None for a line that only sets names."""
    found, point = [], None
    for line in (HERE / "examples.txt").read_text(encoding="ascii").splitlines():
        if line.startswith("# "):
            point = line[2:]
        elif line.startswith(">>> "):
            found.append([point, line[4:], None])
        else:
            found[-1][2] = line
    return [tuple(example) for example in found]


class Examples(unittest.TestCase):
    def test_all(self):
        names = all_names()
        many = 0
        for point, asked, told in examples():
            with self.subTest(point=point, asked=asked):
                many += 1
                if told is None:
                    exec(asked, names)
                elif told.startswith("raises "):
                    self.raises(asked, told[len("raises "):], names)
                else:
                    self.assertEqual(repr(eval(asked, names)), told)
        self.assertGreaterEqual(many, 205)

    def raises(self, asked, told, names):
        word, values = re.fullmatch(r"(\w+)\((.*)\)", told).groups()
        with self.assertRaises(names[word]) as held:
            eval(asked, names)
        self.assertEqual(vars(held.exception), eval("dict(" + values + ")"))

    def test_each_point_has_some(self):
        points = {point for point, _, _ in examples()}
        self.assertEqual(points, {"[%d]" % point for point in range(4, 25)})

    def test_read_me(self):
        names, asked, many = {}, None, 0
        for line in (HERE.parent / "README.md").read_text(encoding="ascii").splitlines():
            if line.startswith("    >>> "):
                if asked:
                    exec(asked, names)
                asked = line[8:]
            elif asked:
                self.assertEqual(repr(eval(asked, names)), line.strip())
                asked, many = None, many + 1
        self.assertEqual((asked, many), (None, 3))


if __name__ == "__main__":
    unittest.main()
