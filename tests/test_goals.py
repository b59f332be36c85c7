"""[140] to [144] Goals: the table of calls and facts built by the words of [141] themselves."""

import unittest
from itertools import product

from neverapart.closing import closed
from neverapart.errors import InvalidGoal
from neverapart.goals import (
    asked, calling_store, calls, can_call, form, instances, kinds_called, looks, matters, used,
)
from neverapart.lots import supports
from neverapart.papers import why
from neverapart.rules import Book, Rule
from plainly import (
    DRY, FAR, NO_FACTS, ODD, ROW, STEP, TOWN, WAYS, WRONG, Chance, all_that_follows, apart, but, names_in_rules, put, refused, refuses_wrong,
    variables_in, without_one,
)

THERE = ("way", "a", "X")
NO_GOALS = ODD + but(NO_FACTS, lambda thing: thing == ("road", "X")) + [
    ("X", "a"), ("road", "XXXX"), ("road", "Xa"), ["way", "a", "X"], ("way", "X", "Y", "Z", "U"), (("way", "X"),), "way(a, X)",
]
WRONG["goal"] = [(InvalidGoal, thing) for thing in NO_GOALS]


def names_for(terms, universe):
    """All ways to give variables names."""
    terms = list(terms)
    return [dict(zip(terms, row)) for row in product(universe, repeat=len(terms))]


def facts_of(pattern, universe):
    return {put(pattern, names) for names in names_for(variables_in([pattern]), universe)}


def plain_form(pattern):
    return put(pattern, dict(zip(variables_in([pattern]), "ABC")))


def made_known(head, call, universe):
    """The names of those variables that have but one in all common instances; None if there is no common instance."""
    wanted = facts_of(call, universe)
    ways = [names for names in names_for(variables_in([head]), universe) if put(head, names) in wanted]
    if not ways:
        return None
    return {term: ways[0][term] for term in variables_in([head]) if len({names[term] for names in ways}) == 1}


def plain_table(rules, goal, store):
    """The least calls and facts that are as [141] says."""
    names = {name for fact in [*store, goal] for name in fact[1:] if name.islower()}
    names |= set(names_in_rules(rules))
    universe = sorted(names) + ["zy", "zz"]
    calls_there, facts = {plain_form(goal)}, set()
    while True:
        before = (set(calls_there), set(facts))
        for call in sorted(calls_there):
            for rule in rules:
                known = made_known(rule.head, call, universe)
                if known is not None:
                    for many in range(len(rule.told) + 1):
                        for way in beginnings(rule, known, call, many, set(store) | facts, sorted(names), universe):
                            if many < len(rule.told):
                                calls_there.add(plain_form(put(rule.told[many], way)))
                            else:
                                facts.add(put(rule.head, way))
        if before == (calls_there, facts):
            return sorted(calls_there), facts


def beginnings(rule, known, call, many, there, names, universe):
    told = rule.told[:many]
    found = []
    for row in names_for([term for term in variables_in(told) if term not in known], names):
        way = {**known, **row}
        both = [pair for pair in rule.pairs if all(term in way for term in pair if term.isupper())]
        if all(put(p, way) in there for p in told) and apart(both, way) and made_known(put(rule.head, way), call, universe) is not None:
            found.append(way)
    return found


def told_as(call, rules, goal):
    """A call with x, xx, xxx for the names that stand neither in the rules nor in the goal."""
    own = {*names_in_rules(rules), *[term for term in goal[1:] if term.islower()]}
    fresh = [name for name in ("x" * many for many in range(1, 20)) if name not in own]
    foreign = []
    for term in call[1:]:
        if term.islower() and term not in own and term not in foreign:
            foreign.append(term)
    return call[:1] + tuple(dict(zip(foreign, fresh)).get(term, term) for term in call[1:])


def drawn(many=120, kinds=(("p", 1), ("q", 2), ("s", 0), ("p", 2), ("r", 3)), names="abc", goal_names="ab", told=2):
    """Rules, a goal and a store; some heads and goals have a variable twice."""
    for seed in range(many):
        chance = Chance(seed, names=names, kinds=kinds, letters="XYZ" if seed % 2 else "XY")
        store = chance.store(6)
        chance.names = list(goal_names) if seed % 3 else list(goal_names[:1])
        book = chance.book(chance.draw.randint(1, 3), told)
        goal = chance.pattern(["U", "U", "V", "W", *goal_names])
        if chance.draw.random() < 0.7 and len(book):
            goal = put(chance.draw.choice(book.rules()).head, {term: chance.draw.choice(["A", "B", "a", "X"]) for term in "XYZ"})
        yield book, goal, store, chance


class Instances(unittest.TestCase):
    def test_instances(self):
        for seed in range(150):
            chance = Chance(seed, kinds=(("q", 2), ("q", 3), ("p", 1), ("s", 0)))
            goal, store = chance.pattern(["X", "Y", "X", "a", "b"]), chance.store(12)
            self.assertEqual(instances(goal, store), sorted(fact for fact in store if fact in facts_of(goal, chance.names)))
            self.assertEqual(instances(goal=goal, store=store[::-1]), instances(goal, store))
        self.assertEqual([instances(("s",), [("s",), ("s", "a")]), instances(("s", "X"), [("s",)])], [[("s",)], []])

    def test_forms(self):
        for goal, expected in (
            (("way", "Y", "Y"), ("way", "A", "A")), (("p", "C", "a", "B"), ("p", "A", "a", "B")), (("p", "B", "A", "B"), ("p", "A", "B", "A")),
            (("p", "XYZ", "Q", "A"), ("p", "A", "B", "C")), (("s",), ("s",)), (("p", "a", "b"), ("p", "a", "b")),
        ):
            self.assertEqual([form(goal), form(goal=goal), form(expected)], [expected] * 3)

    def test_asked(self):
        for book, goal, store, _ in drawn():
            facts = all_that_follows(book.rules(), store)
            universe = sorted({name for fact in facts for name in fact[1:]})
            self.assertEqual(asked(book, goal, store), sorted(set(facts) & facts_of(goal, universe)))


class Tables(unittest.TestCase):
    def test_drawn_tables(self):
        longest = met = 0
        for book, goal, store, _ in drawn(500):
            expected, facts = plain_table(book.rules(), goal, store)
            self.assertEqual(calls(book, goal, store), expected, (book.rules(), goal, store))
            self.assertEqual(calls(book, goal, store[::-1]), expected)
            follows = all_that_follows(book.rules(), store)
            for call in expected:
                self.assertEqual(set(instances(call, follows)), set(instances(call, sorted(facts | set(store)))))
            longest, met = max(longest, len(expected)), met + (len(expected) > 3)
        self.assertTrue(longest > 7 and met > 40, (longest, met))

    def table(self, head, told, call, store, pairs=None):
        """The calls of one rule alone."""
        return [one for one in calls(Book([Rule("r", head, told, pairs)]), call, store) if one != call]

    def test_what_a_call_or_the_head_itself_makes_known(self):
        told = [("s",), ("p", "X"), ("q", "Y")]
        self.assertEqual(self.table(("way", "X", "X"), told[1:2], ("way", "a", "A"), []), [("p", "a")])
        # Neither is known, also not Y where X has a name.
        self.assertEqual(self.table(("way", "X", "Y"), told[1:], ("way", "A", "A"), [("p", "b")]), [("p", "A"), ("q", "A")])
        # What is behind it still has to fit.
        more = told[1:] + [("u", "Y")]
        self.assertEqual(self.table(("way", "X", "Y"), more, ("way", "A", "A"), [("p", "b"), ("q", "b"), ("q", "c")]), [("p", "A"), ("q", "A"), ("u", "b")])
        # A name of the head goes through a variable that the call has twice.
        self.assertEqual(self.table(("way", "X", "a"), told[1:2], ("way", "A", "A"), []), [("p", "a")])
        self.assertEqual(self.table(("way", "X", "Y", "X"), [("q", "Y"), ("p", "X")], ("way", "A", "A", "b"), []), [("q", "b")])
        self.assertEqual(self.table(("way", "X", "b"), told[1:2], ("way", "A", "a"), []), [])
        self.assertEqual(self.table(("way", "X", "X"), told[1:2], ("way", "a", "b"), []), [])
        self.assertEqual(self.table(("way", "X", "X"), told[1:2], ("way", "A", "B"), []), [("p", "A")])
        self.assertEqual(self.table(("way", "Y", "X"), [("q", "X", "Y")], ("way", "a", "A"), []), [("q", "A", "a")])

    def test_pairs_whose_terms_are_both_names(self):
        told = [("p", "X"), ("q", "Y"), ("u", "X", "Y")]
        store = [("p", "a"), ("p", "b"), ("q", "a")]
        self.assertEqual(self.table(("goal", "X", "Y"), told, ("goal", "a", "A"), store, [("X", "a")]), [])
        self.assertEqual(self.table(("goal", "X", "Y"), told, ("goal", "A", "B"), store, [("X", "a")]), [("p", "A"), ("q", "A"), ("u", "b", "a")])
        self.assertEqual(self.table(("goal", "X", "Y"), told, ("goal", "A", "B"), store, [("Y", "X")]), [("p", "A"), ("q", "A"), ("u", "b", "a")])
        self.assertEqual(self.table(("goal", "X", "Y"), told, ("goal", "A", "a"), store, [("Y", "X")]), [("p", "A"), ("q", "a"), ("u", "b", "a")])
        self.assertEqual(self.table(("goal", "X", "Y"), told, ("goal", "a", "a"), store, [("Y", "X")]), [])

    def test_rules_without_told_patterns_and_kinds(self):
        book = Book([Rule("sun", ("p", "a"), []), Rule("r", ("goal", "X"), [("p", "X"), ("p", "X", "Y"), ("goal",)])])
        self.assertEqual(calls(book, ("goal", "Z"), [("p", "a", "b"), ("p", "b", "b")]), [("goal",), ("goal", "A"), ("p", "A"), ("p", "a", "A")])
        self.assertEqual(calls(book, ("goal",), [("p", "a", "b")]), [("goal",)])
        self.assertEqual(calls(Book([]), ("p", "X", "Y", "X"), []), [("p", "A", "B", "A")])

    def test_looks(self):
        for book, goal, store, chance in drawn():
            table, _ = plain_table(book.rules(), goal, store)
            universe = sorted({name for fact in store for name in fact[1:]})
            expected = sorted(fact for fact in store if any(fact in facts_of(call, universe) for call in table))
            self.assertEqual(looks(book, goal, store), expected)
            self.assertEqual(calls(book, goal, expected), table)
            self.assertEqual(asked(book, goal, expected), asked(book, goal, store))
            other = chance.pattern("abc")
            if other not in store and not any(other in facts_of(call, "abc") for call in table):
                self.assertEqual(calls(book, goal, store + [other]), table)

    def test_matters_and_used_each_within_the_next(self):
        seen = {"matters": 0, "used": 0, "looks": 0}
        for book, goal, store, _ in drawn(80):
            book = Book(book.rules()[:2])
            found = asked(book, goal, store)
            mattering = [fact for fact, less in zip(sorted(store), without_one(sorted(store))) if asked(book, goal, less) != found]
            stand = {item[1] for fact in found for lot in supports(book, store, fact) for item in lot if item[0] == "fact"}
            self.assertEqual(matters(book, goal, store), mattering)
            self.assertEqual(used(book, goal, store), sorted(stand))
            self.assertEqual([matters(book, goal, store[::-1]), used(book, goal, store[::-1])], [mattering, sorted(stand)])
            rows = [set(mattering), stand, set(looks(book, goal, store)), set(store)]
            self.assertTrue(rows[0] <= rows[1] <= rows[2] <= rows[3])
            for name, one, other in zip(("matters", "used", "looks"), rows, rows[1:]):
                seen[name] += one < other
            for fact in found:
                self.assertTrue(self.within(why(book, store, fact), calls(book, goal, store)))
        self.assertTrue(min(seen.values()) > 5, seen)

    def within(self, paper, forms):
        """Whether each fact of a paper is an instance of a call."""
        fact = paper[1] if paper[0] == "given" else paper[2]
        parts = paper[3] if paper[0] == "by" else []
        return any(instances(call, [fact]) for call in forms) and all(self.within(part, forms) for part in parts)

    def test_used_though_other_rules_need_less(self):
        # With both rules the second fact is not needed, but it stands in a least lot with the other rule.
        book = Book([Rule("less", ("goal",), [("p",)]), Rule("more", ("goal",), [("p",), ("q",)])])
        store = [("q",), ("p",), ("u",)]
        self.assertEqual([used(book, ("goal",), store), matters(book, ("goal",), store)], [[("p",), ("q",)], [("p",)]])
        self.assertEqual(looks(book, ("goal",), store), [("p",), ("q",)])
        self.assertEqual([used(book, ("u", "X"), store), looks(book, ("u", "X"), store)], [[], []])


class OnSomeStore(unittest.TestCase):
    def small(self, many=70):
        """At most two names in the book and the goal, and at most three variables in a rule."""
        for told in (2, 3):
            for book, goal, store, chance in drawn(many, (("p", 1), ("q", 2), ("s", 0), ("p", 2)), "abcd", told=told):
                yield book, goal, store, chance

    def test_can_call_is_held_against_many_stores(self):
        longest = 0
        for book, goal, store, chance in self.small():
            found = can_call(book, goal)
            longest = max(longest, len(found))
            self.assertEqual(found, sorted(set(found)))
            chance.names = list("abcdx")
            for facts in (store, [], chance.store(8), chance.store(14)):
                for call in calls(book, goal, facts):
                    self.assertIn(told_as(call, book.rules(), goal), found)
            # All facts of few names: all calls that there are on stores with these.
            kinds = sorted({(p[0], len(p) - 1) for rule in book.rules() for p in rule.told})
            whole = [(word, *names) for word, number in kinds for names in product(["a", "b", "c", "d", "x", "xx", "e"], repeat=number)]
            self.assertEqual(sorted({told_as(call, book.rules(), goal) for call in calls(book, goal, whole)}), found)
            self.assertEqual(kinds_called(book, goal), sorted({(call[0], len(call) - 1) for call in found}))
        self.assertGreater(longest, 8)

    def test_calling_stores(self):
        for book, goal, _, _ in self.small():
            for call in can_call(book, goal):
                store = calling_store(book, goal, call)
                self.assertEqual(store, sorted(set(store)))
                table, _ = plain_table(book.rules(), goal, store) if len(store) < 5 else (calls(book, goal, store), None)
                self.assertIn(call, [told_as(one, book.rules(), goal) for one in table])
                self.assertEqual(calling_store(book, goal, call), store)
                for other in (call[:1] + call[1:][::-1], call + ("A",), call[:-1], tuple(part.replace("x", "y") for part in call)):
                    if other and other not in can_call(book, goal):
                        self.assertIsNone(calling_store(book, goal, other))

    def test_calls_of_three_terms(self):
        for book, goal, store, chance in drawn(25, (("r", 3), ("q", 2), ("p", 1)), "abcx"):
            found = can_call(book, goal)
            for call in calls(book, goal, store):
                self.assertIn(told_as(call, book.rules(), goal), found)
            for call in chance.draw.sample(found, min(4, len(found))):
                told = [told_as(one, book.rules(), goal) for one in calls(book, goal, calling_store(book, goal, call))]
                self.assertIn(call, told)

    def test_how_names_are_told(self):
        self.assertEqual(can_call(WAYS, THERE), [("road", "a", "A"), ("road", "x", "A"), ("way", "a", "A"), ("way", "x", "A")])
        # x and xx stand in the book or the goal.
        book = Book([Rule("r", ("way", "X", "Z"), [("road", "X", "Y"), ("way", "Y", "Z")], [("Y", "xx")])])
        self.assertEqual(can_call(book, ("way", "x", "Z")), [
            ("road", "x", "A"), ("road", "xxx", "A"), ("way", "x", "A"), ("way", "xxx", "A")])
        self.assertEqual(can_call(book, ("way", "xx", "x")), [
            ("road", "x", "A"), ("road", "xx", "A"), ("road", "xxx", "A"), ("way", "x", "x"), ("way", "xx", "x"), ("way", "xxx", "x")])
        wide = Book([Rule("r", ("goal",), [("p", "X", "Y", "Z"), ("q", "Z", "Y", "X")])])
        self.assertEqual(can_call(wide, ("goal",)), [("goal",), ("p", "A", "B", "C")] + sorted(
            [("q", "x", "x", "x"), ("q", "x", "x", "xx"), ("q", "x", "xx", "x"), ("q", "x", "xx", "xx"), ("q", "x", "xx", "xxx")]))
        self.assertEqual(can_call(Book([]), ("p", "X", "b")), [("p", "A", "b")])
        self.assertEqual([kinds_called(wide, ("goal",)), kinds_called(Book([]), ("p", "X", "b"))], [[("goal", 0), ("p", 3), ("q", 3)], [("p", 2)]])

    def test_variables_that_have_to_be_alike(self):
        book = Book([Rule("r", ("way", "X", "Y"), [("p", "X"), ("q", "Y"), ("u", "X", "Y"), ("v", "Y", "Z")])])
        first = [("p", "A"), ("q", "A")]
        self.assertEqual(can_call(book, ("way", "U", "U")), first + [("u", "x", "x"), ("v", "x", "A"), ("way", "A", "A")])
        self.assertEqual(can_call(book, ("way", "U", "V")), first + [("u", "x", "x"), ("u", "x", "xx"), ("v", "x", "A"), ("way", "A", "B")])
        self.assertEqual(calling_store(book, ("way", "U", "U"), ("v", "x", "A")), [("p", "x"), ("q", "x"), ("u", "x", "x")])
        self.assertEqual(calling_store(book, ("way", "U", "V"), ("u", "x", "xx")), [("p", "x"), ("q", "xx")])
        apart_ends = Book([Rule("r", ("way", "X", "Y"), [("p", "X"), ("q", "Y"), ("u", "X", "Y")], [("Y", "X")])])
        self.assertEqual(can_call(apart_ends, ("way", "U", "U")), first + [("way", "A", "A")])
        self.assertEqual(can_call(apart_ends, ("way", "U", "V")), first + [("u", "x", "xx"), ("way", "A", "B")])

    def test_calls_that_the_goal_has_on_no_store(self):
        for call in (("road", "A", "B"), ("road", "c", "A"), ("road", "xx", "A"), ("road", "x", "B"), ("hut", "A"), ("way", "X", "A"), ("road", "x"), ("road",)):
            self.assertIsNone(calling_store(WAYS, THERE, call))
        self.assertEqual([calling_store(WAYS, THERE, ("way", "a", "A")), calling_store(Book([]), ("s",), ("s",))], [[], []])
        self.assertIsNotNone(calling_store(call=("way", "x", "A"), goal=THERE, book=WAYS))


class Arguments(unittest.TestCase):
    def test_wrong_arguments(self):
        for call in (asked, calls, looks, matters, used):
            refuses_wrong(self, call, ["book", "goal", "store"], ["plain book", "goal", "store"], [WAYS, THERE, ROW])
        for call in (can_call, kinds_called):
            refuses_wrong(self, call, ["book", "goal"], ["plain book", "goal"], [WAYS, THERE])
        refuses_wrong(self, calling_store, ["book", "goal", "call"], ["plain book", "goal", "goal"], [WAYS, THERE, ("road", "a", "A")])
        refuses_wrong(self, instances, ["goal", "store"], ["goal", "store"], [THERE, TOWN])
        refuses_wrong(self, form, ["goal"], ["goal"], [THERE])
        denied = Book([STEP, DRY])
        refused(self, WRONG["plain book"][-1][0], denied, asked, denied, None, None)

    def test_nothing_that_is_passed_is_changed_and_results_are_new(self):
        store = TOWN[::-1]
        for call in (asked, calls, looks, matters, used):
            first = call(WAYS, THERE, store)
            kept = list(first)
            first.clear()
            self.assertEqual(call(store=store, goal=THERE, book=WAYS), kept)
        for call, more in ((can_call, []), (kinds_called, []), (calling_store, [("road", "x", "A")])):
            first = call(WAYS, THERE, *more)
            kept = list(first)
            first.clear()
            self.assertTrue(kept)
            self.assertEqual(call(WAYS, THERE, *more), kept)
        instances(THERE, store).clear()
        self.assertEqual([store, len(closed(WAYS, store)), WAYS], [TOWN[::-1], 13, Book([STEP, FAR])])


if __name__ == "__main__":
    unittest.main()
