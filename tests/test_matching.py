"""[30], [31] Matching: held against all ways of giving names."""

import unittest
from itertools import permutations

from neverapart.matching import best_order, count_matches, matches, matches_with, partials, variables
from neverapart.rules import Question
from plainly import ROW, TOWN, TWO, Chance, all_matches, put, refuses_wrong, variables_in


def plain_matches(question, store):
    terms = variables_in(question.told)
    return sorted(tuple(names[term] for term in terms) for names in all_matches(question.told, question.pairs, store))


def plain_partials(told, pairs, store):
    numbers = []
    for many in range(1, len(told) + 1):
        terms = variables_in(told[:many])
        ready = [pair for pair in pairs if all(term in terms or term.islower() for term in pair)]
        numbers.append(len(all_matches(told[:many], ready, store)))
    return numbers


def plain_order(question, store):
    told = question.told
    sums = {order: sum(plain_partials([told[at] for at in order], question.pairs, store)) for order in permutations(range(len(told)))}
    return list(min(sums, key=lambda order: (sums[order], order)))


class Matching(unittest.TestCase):
    def drawn(self):
        for seed in range(250):
            chance = Chance(seed, kinds=(("p", 1), ("p", 2), ("q", 2), ("r", 3), ("s", 0)), letters="XYZ" if seed % 5 else "XYZU")
            yield chance.question(4 if seed % 3 == 0 else 3), chance.store(chance.draw.randint(0, 14))

    def test_variables(self):
        self.assertEqual(variables(TWO), ["X", "Y", "Z"])
        self.assertEqual(variables(Question([], [("p", "Z", "a", "Z"), ("q", "Y", "Z", "X")])), ["Z", "Y", "X"])
        self.assertEqual([variables(Question([], [])), variables(question=Question([], [("p", "a")]))], [[], []])

    def test_matches(self):
        for question, store in self.drawn():
            expected = plain_matches(question, store)
            self.assertEqual(matches(question, store), expected)
            self.assertEqual(matches(question, sorted(store)), expected)
            self.assertEqual(count_matches(question, store), len(expected))
            self.assertEqual(variables(question), variables_in(question.told))

    def test_matches_with(self):
        for question, store in self.drawn():
            for fact in store + [("p", "z"), ("r", "a", "a", "a")]:
                expected = [
                    match for match in plain_matches(question, store)
                    if fact in [put(p, dict(zip(variables_in(question.told), match))) for p in question.told]]
                self.assertEqual(matches_with(question, store, fact), expected)

    def test_partials_and_orders(self):
        for question, store in self.drawn():
            self.assertEqual(partials(question, store), plain_partials(question.told, question.pairs, store))
            self.assertEqual(best_order(question, store), plain_order(question, store))

    def test_a_question_without_told_patterns(self):
        none = Question([], [])
        self.assertEqual([matches(none, []), matches(none, TOWN), count_matches(none, [])], [[()], [()], 1])
        self.assertEqual([matches_with(none, TOWN, TOWN[0]), partials(none, TOWN), best_order(none, TOWN)], [[], [], []])

    def test_an_empty_store(self):
        self.assertEqual([matches(TWO, []), count_matches(TWO, []), matches_with(TWO, [], ROW[0])], [[], 0, []])
        self.assertEqual([partials(TWO, []), best_order(TWO, [])], [[0, 0, 0], [0, 1, 2]])

    def test_patterns_that_are_told_twice(self):
        twice = Question([], [("road", "X", "Y"), ("road", "X", "Y")])
        self.assertEqual(matches(twice, ROW), [("a", "b"), ("b", "c")])
        self.assertEqual([partials(twice, ROW), best_order(twice, ROW)], [[2, 2], [0, 1]])
        self.assertEqual(matches_with(twice, ROW, ROW[1]), [("b", "c")])

    def test_two_patterns_may_be_one_fact(self):
        loop = [("road", "a", "a")]
        self.assertEqual(matches(Question([], [("road", "X", "Y"), ("road", "Y", "Z")]), loop), [("a", "a", "a")])

    def test_pairs(self):
        both = [("road", "X", "Y"), ("road", "Z", "U")]
        self.assertEqual(matches(Question([], both[:1], [("X", "a")]), ROW), [("b", "c")])
        self.assertEqual(matches(Question([], both[:1], [("c", "Y"), ("Y", "X")]), ROW), [("a", "b")])
        self.assertEqual(partials(Question([], both, [("X", "Z")]), ROW), [2, 2])
        self.assertEqual(partials(Question([], both, [("X", "a"), ("Z", "X")]), ROW), [1, 1])

    def test_words_with_unlike_numbers_of_terms(self):
        store = [("p",), ("p", "a"), ("p", "a", "b"), ("p", "a", "b", "c")]
        self.assertEqual([matches(Question([], [("p", "X", "Y", "Z")[:many + 1]]), store) for many in range(4)],
                         [[()], [("a",)], [("a", "b")], [("a", "b", "c")]])
        self.assertEqual(matches(Question([], [("p", "X"), ("p", "X", "Y")]), store[1:2]), [])

    def test_of_several_orders_the_first_one(self):
        three = Question([], [("road", "X", "Y"), ("road", "U", "V"), ("hut", "Z")])
        self.assertEqual(best_order(three, TOWN), [2, 0, 1])
        self.assertEqual(best_order(Question([], [("s",), ("t",), ("s",)]), []), [0, 1, 2])

    def test_wrong_arguments(self):
        refuses_wrong(self, variables, ["question"], ["question"], [TWO])
        for call in (matches, count_matches, partials, best_order):
            refuses_wrong(self, call, ["question", "store"], ["question", "store"], [TWO, TOWN])
        refuses_wrong(self, matches_with, ["question", "store", "fact"], ["question", "store", "fact"], [TWO, TOWN, ROW[0]])

    def test_nothing_that_is_passed_is_changed_and_results_are_new(self):
        store, fact = list(reversed(TOWN)), TOWN[0]
        for call, more in [(matches, []), (partials, []), (best_order, []), (matches_with, [fact])]:
            first = call(TWO, store, *more)
            kept = list(first)
            first.clear()
            self.assertEqual(call(question=TWO, store=store, **({"fact": fact} if more else {})), kept)
        variables(TWO).clear()
        self.assertEqual([store, variables(TWO)], [list(reversed(TOWN)), ["X", "Y", "Z"]])


if __name__ == "__main__":
    unittest.main()
