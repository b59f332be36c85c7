"""[80], [81], [82] Questions: answers by all ways of giving names, likeness by the stores of all these ways."""

import unittest
from itertools import product

from neverapart.matching import matches
from neverapart.questions import answers, answers_under, core, parting_store, same_answers, same_under
from neverapart.rules import Book, Question, Rule
from plainly import (
    FAR, ROW, TOWN, TWO, WAYS, Chance, all_answers, all_subsets, all_that_follows, all_ways_to_name, apart,
    names_in_question, names_in_rules, put, refuses_wrong, variables_in, without_one,
)


def has_answers_of(one, other, rules=()):
    """Whether one question has, on each store closed by rules, the answers of the other one."""
    names = sorted({*names_in_question(one), *names_in_question(other), *names_in_rules(list(rules))})
    for way in all_ways_to_name(variables_in(other.told), names):
        store = sorted({put(p, way) for p in other.told})
        if apart(other.pairs, way):
            if tuple(way[column] for column in other.columns) not in all_answers(one, all_that_follows(list(rules), store)):
                return False
    return True


def plain_same(one, other, rules=()):
    return has_answers_of(one, other, rules) and has_answers_of(other, one, rules)


def drawn(many=150, letters="XYZ"):
    """Pairs of questions: unlike ones, and such that have become a little other."""
    for seed in range(many):
        chance = Chance(seed, names="ab", kinds=(("p", 1), ("q", 2), ("s", 0)), letters=letters, pairs=seed % 2 == 0)
        if seed % 3 == 0:
            chance.names = ["x"]
        one = chance.question(3)
        told = one.told + [chance.pattern(variables_in(one.told) + ["X", "W"])]
        chance.draw.shuffle(told)
        other = Question(one.columns, told, one.pairs)
        yield chance.draw.choice([(one, other), (other, one), (one, chance.question(2)), (one, swapped(one))]), chance


def swapped(question):
    """The same question with other letters and its patterns and pairs the other way round."""
    letters = {term: "K" + term for term in variables_in(question.told)}
    told = [put(p, letters) for p in reversed(question.told)]
    pairs = [(letters.get(b, b), letters.get(a, a)) for a, b in question.pairs]
    return Question([letters[column] for column in question.columns], told, pairs)


class Answers(unittest.TestCase):
    def test_drawn_questions(self):
        for seed in range(200):
            chance = Chance(seed)
            question, store = chance.question(), chance.store(9)
            question = Question(question.columns + question.columns[:1], question.told, question.pairs)
            self.assertEqual(answers(question, store), all_answers(question, store))
            self.assertEqual(answers(question, store[::-1]), answers(question, store))
            book = chance.book(2)
            self.assertEqual(answers_under(book, question, store), all_answers(question, all_that_follows(book.rules(), store)))

    def test_columns(self):
        told = [("road", "X", "Y")]
        self.assertEqual(answers(Question(["Y", "X", "Y"], told), ROW), [("b", "a", "b"), ("c", "b", "c")])
        self.assertEqual([answers(Question([], told), ROW), answers(Question([], told), [])], [[()], []])
        self.assertEqual([answers(Question([], []), []), answers(Question([], []), ROW)], [[()], [()]])
        self.assertEqual(answers(Question(["X"], told + [("road", "X", "Z")]), ROW + [("road", "a", "c")]), [("a",), ("b",)])
        self.assertEqual(answers(Question(["X", "Y"], told, [("X", "a")]), ROW), [("b", "c")])
        self.assertEqual(len(matches(Question(["X"], told), TOWN)), 3)

    def test_under_a_book(self):
        self.assertEqual(answers_under(WAYS, Question(["Y"], [("way", "a", "Y")]), ROW), [("b",), ("c",)])
        self.assertEqual(answers_under(Book([]), TWO, TOWN), answers(TWO, TOWN))
        self.assertEqual(answers_under(Book([Rule("r", ("rain",), [])]), Question([], [("rain",)]), []), [()])


class OnAllStores(unittest.TestCase):
    def test_same_answers(self):
        seen = {True: 0, False: 0}
        for (one, other), _ in drawn():
            expected = plain_same(one, other)
            self.assertIs(same_answers(one, other), expected, (one.told, other.told))
            self.assertIs(same_answers(other, one), expected)
            self.assertIs(same_answers(one, swapped(one)), True)
            seen[expected] += 1
        self.assertTrue(min(seen.values()) > 30, seen)

    def test_same_answers_on_all_small_stores(self):
        facts = [("p", name) for name in "abc"] + [("q", *names) for names in product("ab", repeat=2)]
        stores = all_subsets(facts)
        for (one, other), _ in drawn(40, "XY"):
            if same_answers(one, other):
                self.assertTrue(all(answers(one, store) == answers(other, store) for store in stores))

    def test_parting_stores(self):
        found = 0
        for (one, other), _ in drawn():
            store = parting_store(one, other)
            self.assertEqual(store is None, plain_same(one, other))
            if store is not None:
                found += 1
                self.assertEqual(store, sorted(set(store)))
                self.assertNotEqual(all_answers(one, store), all_answers(other, store))
                for less in without_one(store):
                    self.assertEqual(all_answers(one, less), all_answers(other, less))
                self.assertEqual(parting_store(one, other), store)
        self.assertGreater(found, 50)

    def test_unlike_columns_pairs_and_names(self):
        told = [("road", "X", "Y")]
        ask = Question(["X"], told)
        for other in (
            Question(["Y"], told), Question([], told), Question(["X", "X"], told), Question(["X"], told, [("X", "Y")]),
            Question(["X"], told, [("X", "a")]), Question(["X"], [("road", "X", "a")]), Question(["X"], [("road", "X", "X")]),
            Question(["X"], [("road", "X", "Y"), ("road", "Y", "X")]), Question(["X"], [("way", "X", "Y")]), Question(["X"], [("road", "X")]),
        ):
            self.assertFalse(same_answers(ask, other) or same_answers(other, ask))
            self.assertEqual(len(parting_store(ask, other)), 1)
        self.assertTrue(same_answers(ask, Question(["A"], [("road", "A", "B"), ("road", "A", "C")])))
        self.assertTrue(same_answers(Question([], told, [("X", "Y")]), Question([], told, [("Y", "X"), ("X", "Y")])))

    def test_pairs_that_only_all_ways_tell(self):
        # Two roads, one behind the other: X and Z are alike or not, and either way there is an answer.
        both = Question([], [("road", "X", "Y"), ("road", "Y", "Z")])
        apart_ends = Question([], both.told, [("X", "Z")])
        self.assertFalse(same_answers(both, apart_ends))
        store = parting_store(both, apart_ends)
        self.assertEqual(answers(both, store), [()])
        self.assertEqual(answers(apart_ends, store), [])

    def test_questions_without_told_patterns(self):
        sure, some = Question([], []), Question([], [("rain",)])
        self.assertEqual([same_answers(sure, sure), same_answers(sure, some)], [True, False])
        self.assertEqual([parting_store(sure, some), parting_store(some, sure), parting_store(sure, sure)], [[], [], None])
        self.assertTrue(same_under(Book([Rule("r", ("rain",), [])]), sure, some))
        self.assertFalse(same_under(WAYS, sure, some))

    def test_same_under(self):
        seen = {True: 0, False: 0}
        for (one, other), chance in drawn(100):
            book = chance.book(2, 2)
            book = book + Book([Rule("v", ("p", "X"), [("q", "X", "Y")])])
            expected = plain_same(one, other, book.rules())
            self.assertIs(same_under(book, one, other), expected)
            seen[expected] += 1
            self.assertIs(same_under(Book([]), one, other), same_answers(one, other))
        self.assertTrue(min(seen.values()) > 30, seen)

    def test_same_under_with_pairs_in_the_book_alone(self):
        unlike = Rule("unlike", ("p", "X"), [("q", "X", "Y")], [("X", "Y")])
        same = Rule("same", ("p", "X"), [("q", "X", "X")])
        one, other = Question(["X"], [("q", "X", "Y")]), Question(["X"], [("q", "X", "Y"), ("p", "X")])
        self.assertEqual([same_under(Book([unlike]), one, other), same_under(Book([unlike, same]), one, other)], [False, True])
        self.assertTrue(same_under(WAYS, Question(["X"], [("road", "X", "Y"), ("way", "X", "Z")]), Question(["X"], [("road", "X", "Y")])))
        self.assertFalse(same_under(Book([FAR]), Question(["X"], [("road", "X", "Y"), ("way", "X", "Z")]), Question(["X"], [("road", "X", "Y")])))


class Cores(unittest.TestCase):
    def test_drawn_cores(self):
        less = 0
        for (_, question), _ in drawn():
            left = question
            for place in reversed(range(len(question.told))):
                told = left.told[:place] + left.told[place + 1:]
                needed = set(left.columns) | {term for pair in left.pairs for term in pair if term.isupper()}
                if needed <= set(variables_in(told)):
                    new = Question(left.columns, told, left.pairs)
                    if plain_same(new, question):
                        left = new
                        less += 1
            self.assertEqual(core(question), left)
        self.assertGreater(less, 30)

    def test_from_the_last_to_the_first(self):
        told = [("road", "X", "Y"), ("road", "X", "Z")]
        self.assertEqual(core(Question(["X"], told)).told, told[:1])
        self.assertEqual(core(Question(["X", "Z"], told)).told, told[1:])
        self.assertEqual(core(Question(["X"], told, [("Z", "a")])), Question(["X"], told[1:], [("Z", "a")]))
        self.assertEqual(core(Question(["X"], told, [("Y", "Z")])).told, told)
        self.assertEqual(core(Question(["X", "X"], told + told)), Question(["X", "X"], told[:1]))
        ring = [("road", "X", "Y"), ("road", "Y", "X"), ("road", "U", "V"), ("road", "V", "W")]
        self.assertEqual(core(Question([], ring)).told, ring[:2])
        self.assertEqual(core(Question([], [])), Question([], []))
        self.assertEqual(core(Question([], [("road", "a", "b"), ("road", "a", "Y")])).told, [("road", "a", "b")])


class Arguments(unittest.TestCase):
    def test_wrong_arguments(self):
        refuses_wrong(self, answers, ["question", "store"], ["question", "store"], [TWO, TOWN])
        refuses_wrong(self, answers_under, ["book", "question", "store"], ["plain book", "question", "store"], [WAYS, TWO, TOWN])
        for call in (same_answers, parting_store):
            refuses_wrong(self, call, ["one", "other"], ["question", "question"], [TWO, TWO])
        refuses_wrong(self, same_under, ["book", "one", "other"], ["plain book", "question", "question"], [WAYS, TWO, TWO])
        refuses_wrong(self, core, ["question"], ["question"], [TWO])

    def test_nothing_that_is_passed_is_changed_and_results_are_new(self):
        store = list(reversed(TOWN))
        answers(TWO, store).clear()
        answers_under(book=WAYS, store=store, question=TWO).clear()
        parting_store(TWO, Question([], [])).append(1)
        self.assertEqual([answers(store=store, question=TWO), store], [[("a", "c")], list(reversed(TOWN))])
        self.assertEqual(parting_store(other=Question([], []), one=TWO), [])


if __name__ == "__main__":
    unittest.main()
