"""[10], [11], [12] Rules, books and questions."""

import unittest

from neverapart.errors import InvalidBook, InvalidQuestion, InvalidRule, UnknownName
from neverapart.rules import Book, Question, Rule
from plainly import DRY, FAR, NO_FACTS, NO_NAMES, ODD, STEP, WAYS, but, empty_list, refused

NO_PATTERNS = but(NO_FACTS, lambda thing: thing == ("road", "X")) + [
    ("X", "a"), ("road", "XXXX"), ("road", "Xa"), ("road", "X1"), ("road", " X"), ("road", "X\n"), None, True, "road", {},
]
NO_TOLD = [None, True, 0, "", "road", (), {}, (("road", "X"),), [["road", "X"]], [()], ["road"], [None], [STEP]] + [
    [("road", "X"), thing] for thing in NO_PATTERNS
]
NO_PAIRS = [
    True, False, 0, "", "X", (), {}, (("X", "Y"),), [["X", "Y"]], [("X", "X")], [("a", "b")], [("a", "a")], [("X",)], [()],
    [("X", "Y", "Z")], [("X", "Y"), None], [("X", "Y"), ("Y", "")], [("X", "XXXX")], [(1, "X")], [("X", None)], ["XY"],
    [("X", "aaaaaaaaaaa")], [("X", ["Y"])], [STEP],
]
LOOSE_HEAD = ("way", "X", "Q")
TOLD = [("road", "X", "Y")]


class Rules(unittest.TestCase):
    def test_properties_are_what_it_was_made_of(self):
        rule = Rule("r", ("p", "X", "a"), [("q", "X", "Y"), ("q", "X", "Y")], [("X", "Y"), ("b", "Y")], [("s",), ("p", "Y", "Y")])
        self.assertEqual([rule.label, rule.head, rule.told], ["r", ("p", "X", "a"), [("q", "X", "Y"), ("q", "X", "Y")]])
        self.assertEqual([rule.pairs, rule.denied], [[("X", "Y"), ("b", "Y")], [("s",), ("p", "Y", "Y")]])

    def test_none_counts_as_an_empty_list(self):
        self.assertEqual([STEP.pairs, STEP.denied], [[], []])
        self.assertEqual(STEP, Rule("step", ("way", "X", "Y"), TOLD, [], []))
        self.assertEqual(Rule("r", ("rain",), [], pairs=None, denied=[]), Rule("r", ("rain",), []))

    def test_arguments_by_name_in_any_order(self):
        self.assertEqual(Rule(denied=[("s",)], told=TOLD, pairs=[("X", "Y")], head=("p", "Y"), label="r"),
                         Rule("r", ("p", "Y"), TOLD, [("X", "Y")], [("s",)]))

    def test_the_longest_and_the_shortest_parts_are_right(self):
        rule = Rule("a" * 10, ("b" * 10, "ABC", "Z", "c" * 10), [("b" * 10, "ABC", "Z", "z")], [("ABC", "a")])
        self.assertEqual(rule.head, ("b" * 10, "ABC", "Z", "c" * 10))

    def wrong(self, place, thing, alone):
        right = ["step", ("way", "X", "Y"), TOLD, [("X", "Y")], [("foe", "X")]]
        arguments = right[:place] + [thing] + right[place + 1:]
        if alone:
            refused(self, InvalidRule, thing, Rule, *arguments)
        behind = right[:place] + [thing] + [7] * (4 - place)
        refused(self, InvalidRule, thing, Rule, *behind)
        refused(self, InvalidRule, thing, Rule, **dict(reversed(list(zip(["label", "head", "told", "pairs", "denied"], behind)))))

    def test_each_argument_wrong_by_itself_and_with_wrong_ones_behind(self):
        lists = [NO_NAMES, NO_PATTERNS, NO_TOLD, NO_PAIRS, but(NO_TOLD, lambda thing: thing is None)]
        for place, things in enumerate(lists):
            for thing in things:
                self.wrong(place, thing, True)

    def test_variables_that_stand_in_no_told_pattern(self):
        for pairs in ([("X", "Q")], [("Q", "a")], [("X", "Y"), ("Q", "Y")]):
            refused(self, InvalidRule, pairs, Rule, "r", ("p", "X"), TOLD, pairs)
            refused(self, InvalidRule, pairs, Rule, "r", ("p", "X"), TOLD, pairs, [("p", "Q")])
            refused(self, InvalidRule, LOOSE_HEAD, Rule, "r", LOOSE_HEAD, TOLD, pairs, [("p", "Q")])
        denied = [("s",), ("p", "Y", "Q")]
        refused(self, InvalidRule, denied, Rule, "r", ("p", "X"), TOLD, None, denied)
        refused(self, InvalidRule, LOOSE_HEAD, Rule, "r", LOOSE_HEAD, TOLD, None, denied)
        refused(self, InvalidRule, LOOSE_HEAD, Rule, "r", LOOSE_HEAD, [])

    def test_wrong_forms_come_ahead_of_loose_variables(self):
        for thing in but(NO_TOLD, lambda thing: thing is None):
            refused(self, InvalidRule, thing, Rule, "r", LOOSE_HEAD, TOLD, [("Q", "X")], thing)
        refused(self, InvalidRule, (), Rule, "r", LOOSE_HEAD, TOLD, (), [("p", "Q")])

    def test_equal_and_unlike_rules(self):
        parts = ["r", ("p", "X"), TOLD, [("X", "Y")], [("s",)]]
        self.assertEqual(Rule(*parts), Rule(*parts))
        others = ["s", ("p", "Y"), TOLD * 2, [("Y", "X")], [("s", "X")]]
        for place, other in enumerate(others):
            unlike = Rule(*(parts[:place] + [other] + parts[place + 1:]))
            self.assertTrue(Rule(*parts) != unlike)
            self.assertFalse(Rule(*parts) == unlike)
        for thing in but(ODD, lambda thing: thing is STEP):
            self.assertFalse(STEP == thing)
            self.assertTrue(STEP != thing)

    def test_lists_that_are_changed_afterwards_change_nothing(self):
        told, pairs, denied = list(TOLD), [("X", "Y")], [("s",)]
        rule = Rule("r", ("p", "X"), told, pairs, denied)
        for thing in (told, pairs, denied, rule.told, rule.pairs, rule.denied):
            thing.append(("Q", "Q"))
        self.assertEqual(rule, Rule("r", ("p", "X"), TOLD, [("X", "Y")], [("s",)]))
        self.assertEqual([rule.told, rule.pairs, rule.denied], [TOLD, [("X", "Y")], [("s",)]])


class Books(unittest.TestCase):
    def test_rules_and_labels(self):
        self.assertEqual([WAYS.rules(), WAYS.labels(), len(WAYS)], [[STEP, FAR], ["step", "far"], 2])
        self.assertEqual([Book([]).rules(), Book([]).labels(), len(Book([]))], [[], [], 0])
        self.assertEqual(Book(rules=[STEP]), Book([STEP]))

    def test_wrong_books(self):
        double = [STEP, Rule("step", ("rain",), [])]
        for thing in but(ODD, empty_list) + [double, [STEP, STEP], (STEP, FAR), [STEP, None], [WAYS], {STEP.label: STEP}]:
            refused(self, InvalidBook, thing, Book, thing)

    def test_rule(self):
        self.assertEqual([WAYS.rule("far"), WAYS.rule(label="step")], [FAR, STEP])
        for thing in ODD + ["fa", "farr", "Far"]:
            refused(self, UnknownName, thing, WAYS.rule, thing)
            refused(self, UnknownName, thing, WAYS.rule, label=thing)
            refused(self, UnknownName, thing, Book([]).rule, thing)

    def test_without(self):
        three = Book([STEP, DRY, FAR])
        self.assertEqual(three.without("dry"), WAYS)
        self.assertEqual(three.without(label="step"), Book([DRY, FAR]))
        self.assertEqual(Book([STEP]).without("step"), Book([]))
        self.assertEqual(three.labels(), ["step", "dry", "far"])
        for thing in ODD + ["fa"]:
            refused(self, UnknownName, thing, three.without, thing)

    def test_plus(self):
        self.assertEqual(Book([STEP]) + Book([FAR, DRY]), Book([STEP, FAR, DRY]))
        self.assertEqual([WAYS + Book([]), Book([]) + WAYS, Book([]) + Book([])], [WAYS, WAYS, Book([])])
        for thing in but(ODD, lambda thing: isinstance(thing, Book)) + [[FAR], WAYS, Book([FAR]), Book([DRY, STEP])]:
            refused(self, InvalidBook, thing, lambda: WAYS + thing)

    def test_plain(self):
        self.assertIs(WAYS.plain, True)
        self.assertIs(Book([]).plain, True)
        self.assertIs(Book([STEP, DRY]).plain, False)
        self.assertIs(Book([Rule("r", ("p", "X"), TOLD, [("X", "Y")], [])]).plain, True)

    def test_equal_and_unlike_books(self):
        self.assertEqual(WAYS, Book([STEP, Rule("far", FAR.head, FAR.told, [], [])]))
        for other in (Book([FAR, STEP]), Book([STEP]), Book([]), Book([STEP, DRY])):
            self.assertFalse(WAYS == other)
            self.assertTrue(WAYS != other)
        for thing in but(ODD, lambda thing: thing is WAYS) + [[STEP, FAR], (STEP, FAR)]:
            self.assertFalse(WAYS == thing)
            self.assertTrue(WAYS != thing)

    def test_lists_that_are_changed_afterwards_change_nothing(self):
        rules = [STEP, FAR]
        book = Book(rules)
        for thing in (rules, book.rules(), book.labels()):
            thing.clear()
        self.assertEqual([book, book.rules(), book.labels(), len(book)], [WAYS, [STEP, FAR], ["step", "far"], 2])


class Questions(unittest.TestCase):
    def test_properties_are_what_it_was_made_of(self):
        question = Question(["Y", "X", "Y"], TOLD, [("X", "Y")])
        self.assertEqual([question.columns, question.told, question.pairs], [["Y", "X", "Y"], TOLD, [("X", "Y")]])
        self.assertEqual([Question([], []).columns, Question([], []).told, Question([], []).pairs], [[], [], []])
        self.assertEqual(Question(pairs=None, told=TOLD, columns=["X"]), Question(["X"], TOLD, []))

    def test_each_argument_wrong_by_itself_and_with_wrong_ones_behind(self):
        no_columns = [None, True, 0, "X", "", (), ("X",), {}, ["a"], ["X", ""], ["XXXX"], [["X"]], [("X",)], [None], [STEP], ["X1"]]
        for place, things in enumerate([no_columns, NO_TOLD, NO_PAIRS]):
            for thing in things:
                right = [["X"], TOLD, [("X", "Y")]]
                refused(self, InvalidQuestion, thing, Question, *(right[:place] + [thing] + right[place + 1:]))
                behind = right[:place] + [thing] + [7] * (2 - place)
                refused(self, InvalidQuestion, thing, Question, *behind)
                refused(self, InvalidQuestion, thing, Question, **dict(reversed(list(zip(["columns", "told", "pairs"], behind)))))

    def test_variables_that_stand_in_no_told_pattern(self):
        columns, pairs = ["X", "Q"], [("X", "Q")]
        refused(self, InvalidQuestion, columns, Question, columns, TOLD, pairs)
        refused(self, InvalidQuestion, columns, Question, columns, TOLD)
        refused(self, InvalidQuestion, pairs, Question, ["X"], TOLD, pairs)
        refused(self, InvalidQuestion, columns, Question, columns, [])
        for thing in NO_PAIRS:
            refused(self, InvalidQuestion, thing, Question, columns, TOLD, thing)

    def test_equal_and_unlike_questions(self):
        parts = [["X"], TOLD, [("X", "Y")]]
        self.assertEqual(Question(*parts), Question(*parts))
        for place, other in enumerate([["X", "X"], TOLD * 2, [("Y", "X")]]):
            unlike = Question(*(parts[:place] + [other] + parts[place + 1:]))
            self.assertFalse(Question(*parts) == unlike)
            self.assertTrue(Question(*parts) != unlike)
        for thing in ODD:
            self.assertFalse(Question(*parts) == thing)
            self.assertTrue(Question(*parts) != thing)

    def test_lists_that_are_changed_afterwards_change_nothing(self):
        columns, told, pairs = ["X"], list(TOLD), [("X", "Y")]
        question = Question(columns, told, pairs)
        for thing in (columns, told, pairs, question.columns, question.told, question.pairs):
            thing.clear()
        self.assertEqual(question, Question(["X"], TOLD, [("X", "Y")]))


if __name__ == "__main__":
    unittest.main()
