"""[40], [41] Closing: held against all matches, gone through again and again."""

import unittest

from neverapart.closing import breach, closed, is_closed, rounds
from neverapart.rules import Book, Rule
from plainly import ROW, STEP, TOWN, WAYS, Chance, all_matches, all_rounds, all_that_follows, put, refuses_wrong, variables_in


def plain_breach(book, store):
    for rule in book.rules():
        terms = variables_in(rule.told)
        found = all_matches(rule.told, rule.pairs, store)
        missing = [tuple(names[t] for t in terms) for names in found if put(rule.head, names) not in store]
        if missing:
            return rule.label, min(missing)
    return None


def drawn(many=200):
    for seed in range(many):
        kinds = (("p", 1), ("q", 2), ("r", 2), ("s", 0), ("t", 1), ("u", 1)) if seed % 4 else (("q", 2), ("q", 3), ("p", 1))
        chance = Chance(seed, kinds=kinds)
        yield chance.book(chance.draw.randint(0, 6), 2), chance.store(chance.draw.randint(0, 9))


class Closing(unittest.TestCase):
    def test_what_follows_and_in_which_rounds(self):
        longest = 0
        for book, store in drawn():
            expected = all_rounds(book.rules(), store)
            self.assertEqual(rounds(book, store), expected)
            self.assertEqual(closed(book, store), sorted(fact for facts in expected for fact in facts))
            longest = max(longest, len(expected))
        self.assertGreater(longest, 4)

    def test_breach(self):
        for book, store in drawn():
            for facts in (store, all_that_follows(book.rules(), store), all_that_follows(book.rules(), store)[1:]):
                expected = plain_breach(book, facts)
                self.assertEqual(breach(book, facts), expected)
                self.assertIs(is_closed(book, facts), expected is None)

    def test_the_order_of_the_store_means_nothing(self):
        for book, store in drawn(40):
            self.assertEqual(rounds(book, store), rounds(book, list(reversed(store))))
            self.assertEqual(breach(book, store), breach(book, sorted(store)))

    def test_rules_without_told_patterns(self):
        book = Book([Rule("sun", ("sun",), []), Rule("day", ("day", "a"), [("sun",)])])
        self.assertEqual(rounds(book, []), [[], [("sun",)], [("day", "a")]])
        self.assertEqual(rounds(book, [("sun",)]), [[("sun",)], [("day", "a")]])
        self.assertEqual([breach(book, []), breach(book, [("sun",)])], [("sun", ()), ("day", ())])
        self.assertEqual([closed(book, [("day", "a")]), is_closed(book, [])], [[("day", "a"), ("sun",)], False])

    def test_rules_with_pairs(self):
        book = Book([STEP, Rule("meet", ("meet", "X", "Y"), [("way", "X", "Z"), ("way", "Y", "Z")], [("X", "Y"), ("Z", "a")])])
        store = [("road", "b", "d"), ("road", "c", "d"), ("road", "b", "a"), ("road", "c", "a")]
        self.assertEqual(closed(book, store)[:2], [("meet", "b", "c"), ("meet", "c", "b")])
        self.assertEqual(len(closed(book, store)), 10)

    def test_heads_with_names_and_one_variable_twice(self):
        book = Book([Rule("r", ("p", "a", "X", "X"), [("q", "X", "X")])])
        self.assertEqual(closed(book, [("q", "b", "b"), ("q", "b", "c")]), [("p", "a", "b", "b"), ("q", "b", "b"), ("q", "b", "c")])

    def test_empty_books_and_stores(self):
        self.assertEqual([closed(Book([]), []), rounds(Book([]), []), breach(Book([]), [])], [[], [[]], None])
        self.assertEqual([closed(Book([]), TOWN), rounds(Book([]), TOWN)], [sorted(TOWN), [sorted(TOWN)]])
        self.assertEqual([closed(WAYS, []), rounds(WAYS, []), is_closed(WAYS, [])], [[], [[]], True])

    def test_kinds_with_unlike_numbers_of_terms(self):
        book = Book([Rule("r", ("p", "X"), [("p", "X", "Y")])])
        self.assertEqual(closed(book, [("p", "b", "a"), ("p",), ("p", "c")]), [("p",), ("p", "b"), ("p", "b", "a"), ("p", "c")])
        self.assertEqual(rounds(book, [("p", "a")]), [[("p", "a")]])

    def test_wrong_arguments(self):
        for call in (closed, is_closed, breach, rounds):
            refuses_wrong(self, call, ["book", "store"], ["plain book", "store"], [WAYS, ROW])

    def test_nothing_that_is_passed_is_changed_and_results_are_new(self):
        store = list(reversed(ROW))
        for call in (closed, rounds):
            first = call(book=WAYS, store=store)
            first[0:1] = [["other"]] if call is rounds else []
            if call is rounds:
                first[1].clear()
            self.assertNotEqual(call(store=store, book=WAYS), first)
        self.assertEqual(store, list(reversed(ROW)))
        self.assertEqual(rounds(WAYS, store)[0], ROW)


if __name__ == "__main__":
    unittest.main()
