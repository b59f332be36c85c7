"""The examples of the document as they stand there, from the first to the last one in one go, each going on from those ahead."""

import ast
import pathlib
import re
import unittest

TEXT = (pathlib.Path(__file__).resolve().parent / "examples.txt").read_text()


def sections():
    """The tuples of the heading and the lines of each section."""
    parts = re.split(r"^## (.*)\n", TEXT, flags=re.M)
    return [(heading, lines.rstrip("\n").split("\n")) for heading, lines in zip(parts[1::2], parts[2::2])]


def statements(lines):
    """The tuples of some statements and what their last one, an expression, is said to be."""
    source = []
    for line in lines:
        if line.startswith("# "):
            yield "\n".join(source), ast.literal_eval(line[2:])
            source = []
        else:
            source.append(line)
    if any(source):
        raise AssertionError(f"nothing is said of {source}")


class Examples(unittest.TestCase):
    maxDiff = None

    def test_all_in_one_go(self):
        names, many = {}, 0
        for heading, lines in sections():
            for source, expected in statements(lines):
                with self.subTest(heading=heading, source=source):
                    *first, last = ast.parse(source).body
                    exec(compile(ast.Module(first, []), heading, "exec"), names)
                    self.assertEqual(eval(compile(ast.Expression(last.value), heading, "eval"), names), expected)
                many += 1
        self.assertEqual(many, 59)

    def test_each_section_that_has_examples_is_there(self):
        numbers = sorted({int(heading.split(".")[0]) for heading, _ in sections()})
        self.assertEqual(numbers, list(range(3, 24)))


if __name__ == "__main__":
    unittest.main()
