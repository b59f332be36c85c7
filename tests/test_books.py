"""[70] to [74] Books on all stores: held against all bodies with names and as many others as there are variables."""

import copy
import unittest

from neverapart.books import (
    alike, bodies, check_parting, check_reasons, follows, lean, needless, parting, reasons, slim, within,
)
from neverapart.closing import closed
from neverapart.errors import InvalidNames
from neverapart.papers import check_paper
from neverapart.rules import Book, Rule
from plainly import (
    DRY, FAR, LONG, ODD, ROW, STEP, WAYS, Chance, all_that_follows, but, empty_list, names_in_rules, put, refused, refuses_wrong,
    rule_follows, variables_in, without_one,
)

SLOW = Book([STEP, LONG])


def plain_bodies(rule, names):
    """As [71] says, variable by variable."""
    terms = variables_in(rule.told)
    stand = names + [term for p in [rule.head] + rule.told for term in p[1:]] + [term for pair in rule.pairs for term in pair]
    fresh = [name for name in ("x" * many for many in range(1, 30)) if name not in stand]
    rows = [[]]
    for _ in terms:
        rows = [row + [name] for row in rows for name in names + fresh[:len(set(row) - set(names)) + 1]]
    found = []
    for row in rows:
        given = dict(zip(terms, row))
        if all(given.get(a, a) != given.get(b, b) for a, b in rule.pairs):
            found.append((tuple(row), sorted({put(p, given) for p in rule.told}), put(rule.head, given)))
    return sorted(found)


def drawn(many=120):
    """Books with some rules that follow from others: made weaker, or put together of them."""
    for seed in range(many):
        chance = Chance(seed, names="ab", kinds=(("p", 1), ("q", 2), ("s", 0)), letters="XYZ", pairs=seed % 2 == 0)
        if seed % 3 == 0:
            chance.names = ["x"]
        rules = chance.book(2, 2).rules()
        old = chance.draw.choice(rules)
        rules.append(Rule("more", old.head, old.told + chance.told(1), old.pairs))
        chance.draw.shuffle(rules)
        yield Book(rules), chance.rule("new", 2), chance


def parts(one, other, store, fact):
    return (fact in closed(one, store)) != (fact in closed(other, store))


class Bodies(unittest.TestCase):
    def test_drawn_rules(self):
        for _, rule, chance in drawn():
            for names in ([], ["a"], ["b", "a"], ["x"], ["xx", "a"]):
                self.assertEqual(bodies(rule, names), plain_bodies(rule, names))

    def test_numbers_of_bodies(self):
        many = Rule("r", ("s",), [("q", "X", "Y"), ("q", "Z", "U"), ("p", "V")])
        self.assertEqual([len(bodies(many, [])), len(bodies(many, ["a"])), len(bodies(many, ["a", "b"]))], [52, 203, 674])
        self.assertEqual([len(bodies(FAR, [])), len(bodies(FAR, ["a"])), len(bodies(FAR, ["a", "b"]))], [5, 15, 37])

    def test_their_order_and_form(self):
        self.assertEqual(bodies(STEP, ["b", "a"])[:3], [
            (("a", "a"), [("road", "a", "a")], ("way", "a", "a")), (("a", "b"), [("road", "a", "b")], ("way", "a", "b")),
            (("a", "x"), [("road", "a", "x")], ("way", "a", "x"))])
        twice = Rule("r", ("p", "Y"), [("q", "Y", "X"), ("q", "X", "Y"), ("a", "X")])
        self.assertEqual(bodies(twice, []), [
            (("x", "x"), [("a", "x"), ("q", "x", "x")], ("p", "x")),
            (("x", "xx"), [("a", "xx"), ("q", "x", "xx"), ("q", "xx", "x")], ("p", "x"))])

    def test_fresh_names_that_stand_in_the_list_or_in_the_rule(self):
        rule = Rule("x", ("x", "X", "xx"), [("x", "X")], [("X", "xxxx")])
        self.assertEqual(bodies(rule, ["xxx"]), [
            (("x",), [("x", "x")], ("x", "x", "xx")), (("xxx",), [("x", "xxx")], ("x", "xxx", "xx"))])
        self.assertEqual(bodies(rule, ["x"]), [
            (("x",), [("x", "x")], ("x", "x", "xx")), (("xxx",), [("x", "xxx")], ("x", "xxx", "xx"))])
        self.assertEqual(bodies(Rule("r", ("s",), [("p", "x"), ("p", "X")]), []), [(("xx",), [("p", "x"), ("p", "xx")], ("s",))])

    def test_pairs_leave_ways_out(self):
        rule = Rule("r", ("p", "X"), [("q", "X", "Y")], [("X", "Y"), ("Y", "a")])
        self.assertEqual([match for match, _, _ in bodies(rule, ["a"])], [("a", "x"), ("x", "xx")])

    def test_rules_without_told_patterns(self):
        self.assertEqual(bodies(Rule("r", ("p", "a"), []), ["a", "b"]), [((), [], ("p", "a"))])

    def test_wrong_arguments(self):
        refuses_wrong(self, bodies, ["rule", "names"], ["plain rule", None], [STEP, []])
        for names in but(ODD, empty_list) + [["a", "a"], ["a", "X"], [""], ("a",), ["aaaaaaaaaaa"], "a", [("a",)], ["a", None], {"a": 1}]:
            refused(self, InvalidNames, names, bodies, STEP, names)
            refused(self, InvalidNames, names, bodies, names=names, rule=STEP)

    def test_results_are_new(self):
        names = ["b", "a"]
        bodies(STEP, names)[0][1].clear()
        self.assertEqual([bodies(STEP, names)[0][1], names], [[("road", "a", "a")], ["b", "a"]])


class OnAllStores(unittest.TestCase):
    def test_rules_that_follow_and_do_not(self):
        seen = {True: 0, False: 0}
        for book, rule, _ in drawn():
            for one in [rule] + book.rules():
                others = Book([other for other in book.rules() if other != one])
                expected = rule_follows(others.rules(), one)
                self.assertIs(follows(others, one), expected)
                seen[expected] += 1
        self.assertTrue(min(seen.values()) > 50, seen)

    def test_names_that_are_alike_or_not(self):
        sure = Rule("sure", ("p", "X"), [("q", "X", "Y")])
        self.assertTrue(follows(Book([sure]), Rule("r", ("p", "a"), [("q", "a", "b")])))
        self.assertFalse(follows(Book([Rule("r", ("p", "a"), [("q", "a", "b")])]), sure))
        # Neither rule alone leads to it on each store, but both together do, as two terms are alike or are not.
        unlike = Rule("unlike", ("p", "X"), [("q", "X", "Y")], [("X", "Y")])
        same = Rule("same", ("p", "X"), [("q", "X", "X")])
        self.assertEqual([follows(Book([unlike]), sure), follows(Book([same]), sure), follows(Book([unlike, same]), sure)], [False, False, True])
        no_a = Rule("no", ("p", "X"), [("q", "X", "Y")], [("a", "Y")])
        only_a = Rule("only", ("p", "X"), [("q", "X", "a")])
        self.assertEqual([follows(Book([no_a]), sure), follows(Book([no_a, only_a]), sure)], [False, True])

    def test_trivial_rules(self):
        self.assertTrue(follows(Book([]), Rule("r", ("p", "X"), [("q", "X"), ("p", "X")])))
        self.assertFalse(follows(Book([]), Rule("r", ("p", "a"), [])))
        self.assertTrue(follows(Book([Rule("s", ("p", "a"), [])]), Rule("r", ("p", "a"), [])))
        self.assertFalse(follows(Book([]), Rule("r", ("p", "X"), [("p", "X", "X")])))

    def test_within_and_alike(self):
        for book, rule, chance in drawn(80):
            for other in (Book(book.rules()[:2] + [rule]), Book(list(reversed(book.rules()))), chance.book(2, 2)):
                one_way = all(rule_follows(other.rules(), one) for one in book.rules())
                back = all(rule_follows(book.rules(), one) for one in other.rules())
                self.assertIs(within(book, other), one_way)
                self.assertIs(within(other, book), back)
                self.assertIs(alike(book, other), one_way and back)
        self.assertEqual([within(Book([]), WAYS), within(WAYS, Book([])), alike(Book([]), Book([]))], [True, False, True])

    def test_partings(self):
        found = 0
        for book, rule, chance in drawn():
            other = Book(book.rules()[:2] + [rule])
            value = parting(book, other)
            self.assertEqual(value is None, alike(book, other))
            if value is not None:
                store, fact = value
                found += 1
                self.assertTrue(parts(book, other, store, fact))
                self.assertFalse(any(parts(book, other, less, fact) for less in without_one(store)))
                self.assertLessEqual(len(store), max(len(one.told) for one in book.rules() + other.rules()))
                self.assertEqual(store, sorted(store))
                self.assertIs(check_parting(book, other, value), True)
                self.assertIs(check_parting(other, book, value), True)
                self.assertIs(check_parting(book, book, value), False)
        self.assertGreater(found, 50)

    def test_partings_without_facts(self):
        sun = Book([Rule("r", ("sun",), [])])
        self.assertEqual([parting(sun, Book([])), parting(Book([]), sun)], [([], ("sun",))] * 2)
        self.assertEqual(parting(Book([]), Book([Rule("r", ("sun",), [("sun",)])])), None)

    def test_partings_are_the_least(self):
        words = [("j",), ("k",), ("m",)]
        wide, less = Rule("wide", ("goal",), words), Rule("less", ("goal",), words[:2])
        self.assertEqual(parting(Book([wide, less]), Book([])), (words[:2], ("goal",)))
        self.assertEqual(parting(Book([]), Book([wide, Rule("less", ("goal",), words[1:])])), (words[1:], ("goal",)))

    def test_check_parting_of_bent_values_and_of_any_objects(self):
        right = ([("way", "a", "b"), ("way", "b", "c")], ("way", "a", "c"))
        self.assertIs(check_parting(WAYS, SLOW, right), True)
        self.assertIs(check_parting(WAYS, SLOW, (right[0][::-1], right[1])), True)
        bent = [
            list(right), right[:1], right + (None,), (tuple(right[0]), right[1]), (right[0], list(right[1])), (right[0] * 2, right[1]),
            (right[0][:1], right[1]), (right[0] + [("road", "a", "b")], right[1]), (right[0], ("way", "a", "b")), (right[0], ("way", "a", "X")),
            (ROW, right[1]), (None, right[1]), (right[0], None), (right[1], right[0]), (right[0] + [None], right[1]), ([], right[1]),
            (right[0] + [("hut", "a")], right[1]), (right[0] + [("way", "b", "d")], right[1]),
        ]
        for value in bent + ODD:
            self.assertIs(check_parting(WAYS, SLOW, value), False, value)

    def test_needless(self):
        for book, _, _ in drawn():
            rules = book.rules()
            expected = [at for at, rule in enumerate(rules) if rule_follows(rules[:at] + rules[at + 1:], rule)]
            self.assertEqual(needless(book), expected)
        self.assertEqual([needless(Book([])), needless(Book([STEP, Rule("twin", STEP.head, STEP.told)]))], [[], [0, 1]])

    def test_lean(self):
        for book, _, _ in drawn():
            left = book.rules()
            for rule in reversed(book.rules()):
                others = [other for other in left if other != rule]
                left = others if rule_follows(others, rule) else left
            self.assertEqual(lean(book), Book(left))
            self.assertTrue(alike(lean(book), book))
        self.assertEqual(lean(Book([STEP, Rule("twin", STEP.head, STEP.told)])), Book([STEP]))
        self.assertEqual(lean(Book([])), Book([]))

    def test_slim(self):
        less = 0
        for book, _, _ in drawn():
            rules = book.rules()
            for at in range(len(rules)):
                for place in reversed(range(len(rules[at].told))):
                    rule = rules[at]
                    told = rule.told[:place] + rule.told[place + 1:]
                    needed = {term for term in list(rule.head[1:]) + [term for pair in rule.pairs for term in pair] if term.isupper()}
                    if needed <= set(variables_in(told)):
                        new = Rule(rule.label, rule.head, told, rule.pairs)
                        if rule_follows(rules, new):
                            rules[at], less = new, less + 1
            self.assertEqual(slim(book), Book(rules))
            self.assertTrue(alike(slim(book), book))
        self.assertGreater(less, 50)

    def test_slim_takes_the_last_pattern_first_and_goes_on_with_what_is_left(self):
        twice = Rule("r", ("p", "X"), [("q", "X", "Y"), ("q", "X", "Z")])
        self.assertEqual(slim(Book([twice])), Book([Rule("r", ("p", "X"), [("q", "X", "Y")])]))
        needs_pair = Rule("r", ("p", "X"), [("q", "X", "Y"), ("q", "X", "Z")], [("Z", "X")])
        self.assertEqual(slim(Book([needs_pair])), Book([Rule("r", ("p", "X"), [("q", "X", "Z")], [("Z", "X")])]))
        self.assertEqual(slim(Book([Rule("r", ("p", "a"), [("q", "X")])])).rule("r").told, [("q", "X")])
        both = [Rule("j", ("p", "X"), [("q", "X"), ("s",)]), Rule("k", ("s",), [("q", "X")])]
        self.assertEqual(slim(Book(both)).rule("j").told, [("q", "X")])

    def test_reasons(self):
        seen = 0
        for book, rule, _ in drawn(60):
            for one in [rule] + book.rules():
                value = reasons(book, one)
                self.assertEqual(value is not None, rule_follows(book.rules(), one))
                if value is not None:
                    seen += 1
                    expected = plain_bodies(one, names_in_rules(book.rules() + [one]))
                    self.assertEqual([match for match, _ in value], [match for match, _, _ in expected])
                    for (_, store, fact), (_, paper) in zip(expected, value):
                        self.assertTrue(check_paper(book, store, fact, paper))
                    self.assertIs(check_reasons(book, one, value), True)
                    self.assertIs(check_reasons(book, one, copy.deepcopy(value)), True)
        self.assertGreater(seen, 100)

    def test_check_reasons_of_bent_values_and_of_any_objects(self):
        right = reasons(WAYS, LONG)
        other = ("given", ("way", "x", "x"))
        bent = [
            tuple(right), right[::-1], right[1:], right + right[:1], [], [list(part) for part in right], [None] * len(right),
            [(list(match), paper) for match, paper in right], [(match, other) for match, _ in right], [part + (None,) for part in right],
            [(match,) for match, _ in right], [right[0]] * len(right), right[:-1] + [(right[-1][0], right[0][1])], right[:-1] + [other],
            right[:-1] + [(right[0][0], right[-1][1])],
        ]
        for value in bent + ODD:
            self.assertIs(check_reasons(WAYS, LONG, value), False, value)
        for value in (right, [], None):
            self.assertIs(check_reasons(SLOW, FAR, value), False)
            self.assertIs(check_reasons(Book([]), Rule("r", ("p", "a"), []), value), False)
        self.assertIs(check_reasons(WAYS, LONG, right), True)
        self.assertIs(check_reasons(SLOW, LONG, right), False)

    def test_facts_of_heads_may_stand_in_stores(self):
        # Without a way that is given, both would lead to the same.
        self.assertFalse(alike(WAYS, SLOW))
        self.assertEqual(closed(WAYS, ROW), closed(SLOW, ROW))
        self.assertEqual(all_that_follows(WAYS.rules(), [("way", "a", "b"), ("way", "b", "c")])[0], ("way", "a", "b"))

    def test_wrong_arguments(self):
        book_rule, kinds = ["book", "rule"], ["plain book", "plain rule"]
        for call in (follows, reasons):
            refuses_wrong(self, call, book_rule, kinds, [WAYS, LONG])
        refuses_wrong(self, check_reasons, book_rule + ["value"], kinds + [None], [WAYS, LONG, None])
        for call in (within, alike, parting):
            refuses_wrong(self, call, ["one", "other"], ["plain book"] * 2, [WAYS, SLOW])
        refuses_wrong(self, check_parting, ["one", "other", "value"], ["plain book"] * 2 + [None], [WAYS, SLOW, None])
        for call in (needless, lean, slim):
            refuses_wrong(self, call, ["book"], ["plain book"], [WAYS])
        self.assertFalse(DRY.denied == [])

    def test_equal_calls_and_new_results(self):
        for book, rule, _ in drawn(20):
            other = Book(book.rules()[:2] + [rule])
            for call, arguments in ((parting, [book, other]), (reasons, [book, book.rules()[0]])):
                first = call(*arguments)
                kept = copy.deepcopy(first)
                if first:
                    first[0].clear() if call is parting else first.clear()
                self.assertEqual(call(*arguments), kept)


if __name__ == "__main__":
    unittest.main()
