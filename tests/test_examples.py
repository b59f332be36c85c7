"""The examples of the document as they stand there, each going on from those ahead of it."""

import unittest

from neverapart.matching import best_order, matches, matches_with, partials, variables
from neverapart.rules import Book, Question, Rule
from neverapart.texts import book_text, fact_text, read_book, read_fact, read_rule, renamed, rule_text, store_text

step = Rule("step", ("way", "X", "Y"), [("road", "X", "Y")])
far = Rule("far", ("way", "X", "Z"), [("way", "X", "Y"), ("way", "Y", "Z")])
ways = Book([step, far])
other = Rule("other", ("meet", "X", "Y"), [("way", "X", "Z"), ("way", "Y", "Z")], [("X", "Y")], [("foe", "X", "Y")])
town = [("road", "a", "b"), ("road", "b", "c"), ("road", "c", "a"), ("hut", "c")]
two = Question(["X", "Z"], [("road", "X", "Y"), ("road", "Y", "Z"), ("hut", "Z")])


class Examples(unittest.TestCase):
    maxDiff = None

    def test_section_3(self):
        self.assertEqual(
            [ways.labels(), ways.plain, len(ways.without("far")), ways.rule("step") == step,
             (ways + Book([Rule("r", ("rain",), [])])).labels()],
            [['step', 'far'], True, 1, True, ['step', 'far', 'r']])
        self.assertEqual(
            [step.pairs, Question(["X"], [("road", "X", "X")]) == Question(["X"], [("road", "X", "X")], [])], [[], True])

    def test_section_4(self):
        self.assertEqual(
            [rule_text(other), fact_text(("rain",)),
             read_rule("dry: dry(X) if hut(X), not rain") == Rule("dry", ("dry", "X"), [("hut", "X")], None, [("rain",)])],
            ['other: meet(X, Y) if way(X, Z), way(Y, Z), X unlike Y, not foe(X, Y)', 'rain', True])
        self.assertEqual(
            [read_fact("road(a, b)"), read_book(book_text(ways)) == ways, store_text([("road", "b", "a"), ("hut", "b")]),
             renamed([("road", "a", "b")], {"a": "b", "b": "a"})],
            [('road', 'a', 'b'), True, 'hut(b)\nroad(b, a)', [('road', 'b', 'a')]])

    def test_section_5(self):
        self.assertEqual(
            [variables(two), matches(two, town), matches_with(two, town, ("road", "a", "b")), partials(two, town),
             best_order(two, town)],
            [['X', 'Y', 'Z'], [('a', 'b', 'c')], [('a', 'b', 'c')], [3, 3, 1], [2, 1, 0]])


if __name__ == "__main__":
    unittest.main()
