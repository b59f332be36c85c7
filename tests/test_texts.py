"""[20], [21], [22] Texts, reading them back, and other names."""

import unittest

from neverapart.errors import InvalidFact, InvalidNames, InvalidText
from neverapart.rules import Book, Question, Rule
from neverapart.texts import (
    book_text, fact_text, read_book, read_fact, read_rule, read_store, renamed, rule_text, store_text,
)
from plainly import DRY, FAR, NO_FACTS, NO_STORES, ODD, ROW, STEP, WAYS, Chance, but, of, refused, refuses_wrong

FACTS = [("rain",), ("hut", "a"), ("road", "a", "b"), ("road", "a", "b", "c"), ("if", "not", "unlike", "if"), ("not",)]
RULES = {
    "r: rain": Rule("r", ("rain",), []),
    "step: way(X, Y) if road(X, Y)": STEP,
    "far: way(X, Z) if way(X, Y), way(Y, Z)": FAR,
    "dry: dry(X) if hut(X), not rain": DRY,
    "r: rain if not sun, not p(a)": Rule("r", ("rain",), [], [], [("sun",), ("p", "a")]),
    "r: p(X, a, X) if q(X, Y), q(X, Y), X unlike Y, a unlike X, not p(X, X, X)": Rule(
        "r", ("p", "X", "a", "X"), [("q", "X", "Y")] * 2, [("X", "Y"), ("a", "X")], [("p", "X", "X", "X")]),
    # Words that look like parts of the text.
    "if: if if if, not, not not": Rule("if", ("if",), [("if",), ("not",)], [], [("not",)]),
    "not: not(X) if unlike(X), X unlike not, not unlike X, not unlike": Rule(
        "not", ("not", "X"), [("unlike", "X")], [("X", "not"), ("not", "X")], [("unlike",)]),
    "unlike: unlike(unlike, if, X) if not(if, unlike, X), unlike, X unlike unlike, unlike unlike X, not unlike(X)": Rule(
        "unlike", ("unlike", "unlike", "if", "X"), [("not", "if", "unlike", "X"), ("unlike",)],
        [("X", "unlike"), ("unlike", "X")], [("unlike", "X")]),
}
SIGNS = ["", " ", "\n", "a", "X", "(", ")", ",", ":", "1", "_", "\t", "\u00e9"]


def bent(text):
    """All texts with a sign less, more or exchanged."""
    for place in range(len(text) + 1):
        for sign in SIGNS[1:]:
            yield text[:place] + sign + text[place:]
        if place < len(text):
            for sign in SIGNS:
                yield text[:place] + sign + text[place + 1:]


class Texts(unittest.TestCase):
    def test_texts_of_facts(self):
        self.assertEqual([fact_text(fact) for fact in FACTS], [
            "rain", "hut(a)", "road(a, b)", "road(a, b, c)", "if(not, unlike, if)", "not"])

    def test_texts_of_rules_and_back(self):
        for text, rule in RULES.items():
            self.assertEqual(rule_text(rule), text)
            self.assertEqual(read_rule(text), rule)

    def test_texts_of_books_and_back(self):
        book = Book([Rule("abcdefghij"[at], r.head, r.told, r.pairs, r.denied) for at, r in enumerate(RULES.values())])
        lines = book_text(book).split("\n")
        self.assertEqual([line.partition(": ")[2] for line in lines], [text.partition(": ")[2] for text in RULES])
        self.assertEqual(read_book(book_text(book)), book)
        self.assertEqual([book_text(Book([])), read_book("")], ["", Book([])])

    def test_texts_of_stores_and_back(self):
        self.assertEqual(store_text(FACTS), "hut(a)\nif(not, unlike, if)\nnot\nrain\nroad(a, b)\nroad(a, b, c)")
        self.assertEqual(read_store(store_text(FACTS)), sorted(FACTS))
        self.assertEqual([store_text([]), read_store("")], ["", []])
        # Ascending as Python orders tuples, not texts.
        self.assertEqual(store_text([("p", "b"), ("pa",), ("p",), ("p", "a", "z"), ("p", "a")]), "p\np(a)\np(a, z)\np(b)\npa")

    def test_facts_back(self):
        for fact in FACTS:
            self.assertEqual(read_fact(fact_text(fact)), fact)

    def test_drawn_books_and_stores_back(self):
        for seed in range(60):
            chance = Chance(seed, kinds=(("p", 3), ("not", 1), ("if", 2), ("unlike", 0)), names=["if", "not", "unlike"])
            book = chance.book(4)
            rules = [Rule(r.label, r.head, r.told, r.pairs, [p for p in r.told if chance.draw.random() < 0.3]) for r in book.rules()]
            self.assertEqual(read_book(book_text(Book(rules))), Book(rules))
            store = chance.store(9)
            self.assertEqual(read_store(store_text(store)), sorted(store))

    def test_bent_texts_are_refused_or_are_texts_of_something_else(self):
        cases = [(read_fact, fact_text, [fact_text(fact) for fact in FACTS]), (read_rule, rule_text, RULES),
                 (read_book, book_text, ["", book_text(WAYS)]), (read_store, store_text, ["", store_text(FACTS)])]
        refusals = 0
        for read, write, texts in cases:
            for text in texts:
                for other in bent(text):
                    try:
                        self.assertEqual(write(read(other)), other)
                    except InvalidText as error:
                        self.assertIs(error.value, other)
                        refusals += 1
        self.assertGreater(refusals, 5000)

    def test_texts_that_are_none(self):
        for text in ["rain\n", "\nrain", "rain ", " rain", "rain()", "rain(,)", "road(a,b)", "road(a,  b)", "road(a, b))", "road(a, b",
                     "road (a, b)", "Road(a)", "road(A)", "road(a, b, c, d)", "rain\nsun", "aaaaaaaaaaa", "p(aaaaaaaaaaa)", "rain, sun", ""]:
            refused(self, InvalidText, text, read_fact, text)
        for text in ["rain", "r:rain", "r: ", ": rain", "r: rain if ", "r: rain if", "r: rain\n", "r: rain if sun,fog", "r: rain if sun, ",
                     "r: p(X)", "r: rain if X unlike Y", "r: rain if p(X), X unlike X", "r: rain if p(X), a unlike b", "r: rain if not sun, fog",
                     "r: rain if p(X), not sun, X unlike a", "r: rain if X unlike a, p(X)", "r: rain if p(X), not q(Y)", "r: rain if p(X, Y",
                     "r: rain if p(X), X unlike", "r: rain if p(X), X unlike a unlike b", "R: rain", "r: rain if not  sun",
                     "r: rain if sun if fog", "r: r: rain", "r: X", ""]:
            refused(self, InvalidText, text, read_rule, text)
        self.assertEqual(read_rule("r: rain if not"), Rule("r", ("rain",), [("not",)]))

    def test_books_and_stores_that_are_none(self):
        for text in ["r: rain\n", "\nr: rain", "\n", "r: rain\n\ns: sun", "r: rain\nr: sun", "rain", "r: rain\nr: rain", " "]:
            refused(self, InvalidText, text, read_book, text)
        for text in ["rain\n", "\nrain", "\n", "sun\nrain", "rain\nrain", "rain\n\nsun", "p(b)\np(a)", "p(a)\np", "rain, sun", "p(X)", " "]:
            refused(self, InvalidText, text, read_store, text)
        self.assertEqual(read_store("p\np(a)"), [("p",), ("p", "a")])

    def test_wrong_arguments(self):
        for call, name, kind in [(fact_text, "fact", "fact"), (rule_text, "rule", "rule"), (book_text, "book", "book"),
                                 (store_text, "store", "store"), (read_fact, "text", "text"), (read_rule, "text", "text"),
                                 (read_book, "text", "text"), (read_store, "text", "text")]:
            refuses_wrong(self, call, [name], [kind], [None])

    def test_what_is_returned_may_be_changed(self):
        read_store("p\nq").clear()
        self.assertEqual(read_store("p\nq"), [("p",), ("q",)])


SWAP = {"a": "b", "b": "a"}


class Renamed(unittest.TestCase):
    def test_facts_and_stores(self):
        self.assertEqual(renamed(("a", "a", "b", "c"), SWAP), ("a", "b", "a", "c"))
        self.assertEqual(renamed(("a",), SWAP), ("a",))
        self.assertEqual(renamed([("b", "b"), ("a", "b"), ("p", "a", "c"), ("p", "b", "c")], SWAP),
                         [("a", "a"), ("b", "a"), ("p", "a", "c"), ("p", "b", "c")])
        self.assertEqual(renamed([("p", "b"), ("p", "a")], {"a": "c", "c": "d", "d": "a"}), [("p", "b"), ("p", "c")])
        self.assertEqual([renamed([], SWAP), renamed([("p", "b"), ("p", "a")], {})], [[], [("p", "a"), ("p", "b")]])

    def test_rules_books_and_questions(self):
        rule = Rule("a", ("a", "X", "a"), [("b", "X", "b"), ("a", "c")], [("X", "a"), ("b", "X")], [("b", "b")])
        other = Rule("a", ("a", "X", "b"), [("b", "X", "a"), ("a", "c")], [("X", "b"), ("a", "X")], [("b", "a")])
        self.assertEqual(renamed(rule, SWAP), other)
        self.assertEqual(renamed(Book([STEP, rule]), SWAP), Book([STEP, other]))
        self.assertEqual(renamed(Book([]), SWAP), Book([]))
        question = Question(["X", "X"], [("a", "X", "b")], [("a", "X")])
        self.assertEqual(renamed(question, SWAP), Question(["X", "X"], [("a", "X", "a")], [("b", "X")]))
        self.assertEqual(renamed(names={}, thing=rule), rule)

    def test_wrong_things(self):
        right = (ROW[0], [("road", "a")], [])
        for thing in but(ODD + NO_FACTS + NO_STORES, of((Rule, Book, Question)), lambda thing: thing in right):
            refused(self, InvalidFact, thing, renamed, thing, SWAP)
            refused(self, InvalidFact, thing, renamed, thing, None)
            refused(self, InvalidFact, thing, renamed, names=None, thing=thing)

    def test_names_that_are_no_exchange(self):
        for names in but(ODD, lambda thing: thing == {} and isinstance(thing, dict)) + [
                {"a": "b"}, {"a": "b", "b": "b"}, {"a": "b", "b": "c"}, {"a": "a", "b": "a"}, {"a": "X", "X": "a"}, {"": ""}, {1: 1},
                {"a": ["a"]}, {"a": None}, {1: "a", "a": "b"}, {"a": 1, "b": "a"}, {None: "a"}, [("a", "a")], {"aaaaaaaaaaa": "aaaaaaaaaaa"}, {("a",): ("a",)}]:
            for thing in (ROW[0], ROW, STEP, WAYS, Question([], []), []):
                refused(self, InvalidNames, names, renamed, thing, names)

    def test_nothing_that_is_passed_is_changed(self):
        store, names = [("p", "b"), ("p", "a")], {"a": "c", "c": "a"}
        renamed(store, names).clear()
        self.assertEqual([store, names], [[("p", "b"), ("p", "a")], {"a": "c", "c": "a"}])


if __name__ == "__main__":
    unittest.main()
