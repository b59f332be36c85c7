"""[60], [61], [62] Lots: held against all lots there are."""

import unittest

from neverapart.errors import InvalidBook, InvalidLot, InvalidStore, NotPlain
from neverapart.lots import adds, cuts, state, supports
from neverapart.rules import Book, Rule
from plainly import DRY, ODD, ROW, STEP, WAYS, Chance, all_subsets, all_that_follows, refused, refuses_wrong, WRONG

AC = ("way", "a", "c")


def items_of(book, store):
    return sorted([("fact", fact) for fact in store] + [("rule", label) for label in book.labels()])


def holds(book, lot, fact, more=()):
    rules = [rule for rule in book.rules() if ("rule", rule.label) in lot]
    return fact in all_that_follows(rules, [item[1] for item in lot if item[0] == "fact"] + list(more))


def least(lots):
    return sorted(lot for lot in lots if not any(set(other) < set(lot) for other in lots))


def plain_supports(book, store, fact):
    return least([lot for lot in all_subsets(items_of(book, store)) if holds(book, lot, fact)])


def plain_cuts(book, store, fact):
    items = items_of(book, store)
    return least([lot for lot in all_subsets(items) if not holds(book, [item for item in items if item not in lot], fact)])


def drawn(many=60):
    for seed in range(many):
        chance = Chance(seed, names="abc" if seed % 2 else "ab", kinds=(("p", 1), ("q", 2), ("s", 0), ("u", 1)))
        book, store = chance.book(chance.draw.randint(1, 3)), chance.store(4)
        facts = all_that_follows(book.rules(), store)
        yield book, store, chance.draw.choice([fact for fact in facts if fact not in store] or facts or [("s",)]), chance


class Lots(unittest.TestCase):
    def test_supports_and_cuts(self):
        seen = 0
        for book, store, fact, chance in drawn():
            for one in (fact, chance.pattern(chance.names)):
                found, fallen = supports(book, store, one), cuts(book, store, one)
                self.assertEqual(found, plain_supports(book, store, one))
                self.assertEqual(fallen, plain_cuts(book, store, one))
                self.assertTrue(all(set(lot) & set(cut) for lot in found for cut in fallen))
                seen += len(found) > 1
        self.assertGreater(seen, 5)

    def test_the_order_of_the_lists(self):
        store = [("p", "b"), ("p", "a"), ("q", "a"), ("p", "c")]
        book = Book([Rule("z", ("goal",), [("p", "X")]), Rule("y", ("goal",), [("q", "X")])])
        lots = [[("fact", ("p", name)), ("rule", "z")] for name in "abc"] + [[("fact", ("q", "a")), ("rule", "y")]]
        self.assertEqual(supports(book, store, ("goal",)), lots)
        whole = [("fact", fact) for fact in sorted(store)]
        self.assertEqual(cuts(book, store, ("goal",)), sorted([
            whole, whole[:3] + [("rule", "y")], whole[3:] + [("rule", "z")], [("rule", "y"), ("rule", "z")]]))

    def test_facts_that_do_not_follow(self):
        for book, store in ((WAYS, ROW), (Book([]), []), (WAYS, []), (Book([]), ROW)):
            self.assertEqual([supports(book, store, ("hut", "a")), cuts(book, store, ("hut", "a"))], [[], [[]]])

    def test_given_facts_and_rules_without_told_patterns(self):
        book = Book([Rule("sun", ("sun",), []), STEP])
        self.assertEqual([supports(book, ROW, ("sun",)), cuts(book, ROW, ("sun",))], [[[("rule", "sun")]]] * 2)
        both = [("sun",)]
        self.assertEqual(supports(book, both, ("sun",)), [[("fact", ("sun",))], [("rule", "sun")]])
        self.assertEqual(cuts(book, both, ("sun",)), [[("fact", ("sun",)), ("rule", "sun")]])
        self.assertEqual(supports(Book([]), ROW, ROW[0]), [[("fact", ROW[0])]])

    def test_facts_that_only_lead_to_one_another(self):
        ring = Book([Rule("one", ("hen",), [("egg",)]), Rule("two", ("egg",), [("hen",)]), Rule("dawn", ("egg",), [("sun",)])])
        self.assertEqual(supports(ring, [("sun",)], ("hen",)), [[("fact", ("sun",)), ("rule", "dawn"), ("rule", "one")]])

    def test_adds(self):
        for book, store, fact, chance in drawn():
            could = sorted(set(chance.store(4) + store[:1]))
            chance.draw.shuffle(could)
            for kept in (store, store[:2]):
                fresh = sorted(set(could) - set(kept))
                expected = least([some for some in all_subsets(fresh) if fact in all_that_follows(book.rules(), kept + some)])
                self.assertEqual(adds(book, kept, could, fact), expected)

    def test_adds_at_the_edges(self):
        self.assertEqual(adds(WAYS, ROW, [("road", "c", "a")], AC), [[]])
        self.assertEqual(adds(WAYS, ROW, [], ("way", "c", "a")), [])
        self.assertEqual(adds(WAYS, ROW, ROW, ("way", "c", "a")), [])
        self.assertEqual([adds(WAYS, ROW, ROW, AC), adds(WAYS, ROW, ROW + [("road", "c", "a")], ("way", "c", "a"))], [[[]], [[("road", "c", "a")]]])
        self.assertEqual([adds(WAYS, [], ROW, AC), adds(WAYS, [], ROW[::-1], AC)], [[ROW], [ROW]])
        self.assertEqual(adds(WAYS, ROW, [("hut", "a"), ROW[0]], ("hut", "a")), [[("hut", "a")]])

    def test_state(self):
        seen = {"sure": 0, "never": 0, "possible": 0}
        for book, store, fact, chance in drawn():
            items = items_of(book, store)
            taken = [item for item in items if chance.draw.random() < 0.3]
            put = chance.store(2)
            for one in (fact, chance.pattern(chance.names)):
                ends = {
                    holds(book, [item for item in items if item not in out], one, more)
                    for out in all_subsets(taken) for more in all_subsets(put)}
                expected = "possible" if len(ends) == 2 else "sure" if True in ends else "never"
                self.assertEqual(state(book, store, one, taken, put), expected)
                seen[expected] += 1
        self.assertTrue(all(seen[key] > 2 for key in seen), seen)

    def test_state_at_the_edges(self):
        self.assertEqual(state(WAYS, ROW, ROW[0], [("fact", ROW[0])], [ROW[0]]), "possible")
        self.assertEqual(state(WAYS, ROW, ("hut", "a"), [], [("hut", "a")]), "possible")
        self.assertEqual(state(WAYS, ROW, AC, [("rule", "far")], []), "possible")
        self.assertEqual(state(WAYS, ROW, AC, [], []), "sure")
        self.assertEqual(state(Book([]), [], AC, [], []), "never")

    def test_lots_that_are_none(self):
        items = items_of(WAYS, ROW)
        self.assertEqual(state(WAYS, ROW, AC, items, []), "possible")
        wrong = [
            [items[1], items[0]], items[::-1], [items[0], items[0]], tuple(items), [("fact", ("road", "c", "a"))], [("rule", "none")],
            [list(items[0])], [("fact", list(ROW[0]))], [ROW[0]], ["far"], [("rule", "far", "far")], [("far", "rule")], [None], {},
            items + [("rule", "zzz")], [("fact", "step")], [("rule", ROW[0])], [("rule", STEP)], [[]], [("fact",)], "fact",
        ]
        for lot in wrong + [thing for thing in ODD if thing != [] or not isinstance(thing, list)]:
            for put in ([], None, 7):
                refused(self, InvalidLot, lot, state, WAYS, ROW, AC, lot, put)
                refused(self, InvalidLot, lot, state, put=put, taken=lot, fact=AC, store=ROW, book=WAYS)

    def test_wrong_arguments(self):
        names, kinds = ["book", "store", "fact"], ["plain book", "store", "fact"]
        for call in (supports, cuts):
            refuses_wrong(self, call, names, kinds, [WAYS, ROW, AC])
        refuses_wrong(self, adds, ["book", "store", "could", "fact"], ["plain book", "store", "store", "fact"], [WAYS, ROW, [], AC])
        refuses_wrong(self, state, names + ["taken", "put"], kinds + [None, "store"], [WAYS, ROW, AC, [], []])
        denied = Book([DRY])
        refused(self, NotPlain, denied, state, denied, 1, 2, 3, 4)
        none = [STEP]
        refused(self, InvalidBook, none, supports, none, 1, 2)
        for error, thing in WRONG["store"]:
            self.assertIs(error, InvalidStore)
            refused(self, error, thing, adds, WAYS, thing, None, None)

    def test_nothing_that_is_passed_is_changed_and_results_are_new(self):
        store, could, taken = list(reversed(ROW)), [("way", "b", "d"), ("road", "c", "d")], [("fact", ROW[0])]
        for call in (supports, cuts):
            first = call(WAYS, store, AC)
            kept = [list(lot) for lot in first]
            first[0].clear()
            first.pop()
            self.assertEqual(call(fact=AC, store=sorted(store), book=WAYS), kept)
        adds(WAYS, store, could, ("way", "a", "d"))[0].clear()
        self.assertEqual(adds(WAYS, store, could, ("way", "a", "d")), [[("road", "c", "d")], [("way", "b", "d")]])
        state(WAYS, store, AC, taken, could)
        self.assertEqual([store, could, taken], [ROW[::-1], [("way", "b", "d"), ("road", "c", "d")], [("fact", ROW[0])]])


if __name__ == "__main__":
    unittest.main()
