"""[130] to [136] Nets: led through rows of deeds, everything that they tell worked out anew behind each."""

import copy
import unittest
from itertools import permutations

from neverapart.errors import NotPlain, TakenName, UnknownName
from neverapart.keeping import Net
from neverapart.live import Engine
from neverapart.matching import partials
from neverapart.rules import Book, Question, Rule
from plainly import (
    FAR, LONG, NO_FACTS, NO_NAMES, ODD, ROW, STEP, TOWN, WAYS, WRONG, Chance, all_matches, all_that_follows, put, refused, refuses_wrong,
    variables_in,
)

NEST = Book([Rule("one", ("hen",), [("egg",)]), Rule("two", ("egg",), [("hen",)]), Rule("dawn", ("egg",), [("sun",)])])
CA = ("road", "c", "a")


def ready(patterns, pairs):
    terms = variables_in(patterns)
    return [pair for pair in pairs if all(term in terms for term in pair if term.isupper())]


def plain_written(patterns, pairs):
    """As [130] says: the letters by their first standing."""
    letters = dict(zip(variables_in(patterns), "ABCDEFGH"))
    apart = {tuple(sorted((letters.get(one, one), letters.get(other, other)))) for one, other in ready(patterns, pairs)}
    return [put(p, letters) for p in patterns], sorted(apart)


def plain_beginnings(rules):
    found = []
    for rule in rules:
        for many in range(1, len(rule.told) + 1):
            one = plain_written(rule.told[:many], rule.pairs)
            if one not in found:
                found.append(one)
    return sorted(found)


def rows_of(patterns, pairs, facts):
    terms = variables_in(patterns)
    return sorted(tuple(names[term] for term in terms) for names in all_matches(patterns, pairs, facts))


def table(rules, facts):
    """The matches of all beginnings of rules, in a list beside them."""
    return [(one, rows_of(*one, facts)) for one in plain_beginnings(rules)]


def without(rules, label):
    return [rule for rule in rules if rule.label != label]


def known(rules, given):
    return all_that_follows(rules, sorted(given))


def came_and_went(before, after):
    return [fact for fact in after if fact not in before], [fact for fact in before if fact not in after]


def drawn_book(chance, many):
    """Books with rules whose beginnings are the same under other letters."""
    rules = chance.book(many, 3).rules()
    if rules and chance.draw.random() < 0.6:
        rule = chance.draw.choice(rules)
        letters = dict(zip(variables_in(rule.told), ["K", "B", "A"]))
        pairs = [(letters.get(b, b), letters.get(a, a)) for a, b in rule.pairs]
        told = [put(p, letters) for p in rule.told] + chance.told(1)[:1]
        rules.append(Rule("twin", put(rule.head, letters), told, pairs + pairs[:1]))
    return Book(rules)


class Led(unittest.TestCase):
    def same(self, net, rules, given, ahead):
        """All that a net tells, by its rules and given facts, and by the rules and what followed ahead of its last deed."""
        facts = known(rules, given)
        self.assertEqual([net.book(), net.given(), net.closed(), len(net)], [Book(rules), sorted(given), facts, len(facts)])
        self.assertEqual(net.beginnings(), plain_beginnings(rules))
        self.assertEqual(net.kept(), sum(len(rows) for _, rows in table(rules, facts)))
        for rule in rules:
            self.assertEqual(net.matches(rule.label), rows_of(rule.told, rule.pairs, facts))
            self.assertEqual(net.partials(rule.label), partials(Question([], rule.told, rule.pairs), facts))
            self.assertEqual(net.partials(rule.label), [
                len(rows_of(*plain_written(rule.told[:many], rule.pairs), facts)) for many in range(1, len(rule.told) + 1)])
        self.assertEqual(net.turned(), self.plain_turned(ahead, rules, facts))
        self.assertTrue(net == net.copy() and not net != net.copy())

    def plain_turned(self, ahead, rules, facts):
        if ahead is None:
            return []
        before, after = table(*ahead), table(rules, facts)
        found = []
        for one in plain_beginnings(ahead[0] + rules):
            old = [row for other, rows in before if other == one for row in rows]
            new = [row for other, rows in after if other == one for row in rows]
            if old != new:
                found.append((one, *came_and_went(old, new)))
        return found

    def facts_of(self, net, rules, given, chance):
        """What the net tells of single facts."""
        facts = known(rules, given)
        for fact in chance.draw.sample(facts, min(3, len(facts))) + [chance.pattern(chance.names)]:
            self.assertIs(fact in net, fact in facts)
            leads = [
                (rule.label, row) for rule in rules for row in rows_of(rule.told, rule.pairs, facts)
                if put(rule.head, dict(zip(variables_in(rule.told), row))) == fact
            ]
            self.assertEqual(net.leads(fact), sorted(leads))
            other = set(given) ^ {fact}
            self.assertEqual(net.would(fact), came_and_went(facts, known(rules, other)))
            if fact in facts:
                self.assertEqual(net.needs(fact), [one for one in sorted(given) if fact not in known(rules, set(given) - {one})])
                self.assertEqual(net.leans(fact), sorted(r.label for r in rules if fact not in known(without(rules, r.label), given)))
            else:
                for call in (net.needs, net.leans):
                    refused(self, UnknownName, fact, call, fact)

    def step(self, net, rules, given, chance):
        """A deed; returns the rules and given facts behind it, and what the deed returned."""
        draw = chance.draw
        way = draw.choice(["tell", "tell", "take", "turn", "add", "drop"])
        fresh = sorted({chance.pattern(chance.names) for _ in range(2)} - given)
        if way == "tell" and fresh:
            return rules, given | {fresh[0]}, net.tell(fresh[0])
        if way == "take" and given:
            fact = draw.choice(sorted(given))
            return rules, given - {fact}, net.take(fact)
        if way == "add" and len(rules) < 4:
            rule = chance.rule(draw.choice([label for label in "jklmnv" if label not in [rule.label for rule in rules]]), 2)
            return rules + [rule], given, net.add(rule)
        if way == "drop" and rules:
            label = draw.choice(rules).label
            return without(rules, label), given, net.drop(label)
        taken = draw.sample(sorted(given), min(2, len(given)))
        draw.shuffle(fresh)
        return rules, (given | set(fresh)) - set(taken), net.turn(fresh, taken)

    def drawn(self, many):
        for seed in range(many):
            chance = Chance(seed, names="ab", letters="XY")
            yield drawn_book(chance, chance.draw.randint(0, 3)), chance

    def test_rows_of_deeds(self):
        turned = 0
        for book, chance in self.drawn(40):
            net, rules, given = Net(book), book.rules(), set()
            self.same(net, rules, given, None)
            for _ in range(12):
                ahead = (rules, known(rules, given))
                rules, given, result = self.step(net, rules, given, chance)
                self.assertEqual(result, came_and_went(ahead[1], known(rules, given)))
                self.same(net, rules, given, ahead)
                self.facts_of(net, rules, given, chance)
                turned += len(net.turned()) > 1
                for fact in sorted(given)[:1]:
                    refused(self, TakenName, fact, net.tell, fact)
                self.assertEqual(net.turned(), self.plain_turned(ahead, rules, known(rules, given)))
        self.assertGreater(turned, 50)

    def test_unlike_deeds_that_lead_to_the_same(self):
        for book, chance in self.drawn(30):
            net, rules, given = Net(book), book.rules(), set()
            for _ in range(8):
                rules, given, _ = self.step(net, rules, given, chance)
            other = Net(Book([]))
            facts = sorted(given)
            chance.draw.shuffle(facts)
            for fact in facts[:len(facts) // 2]:
                other.tell(fact)
            for rule in rules:
                other.add(rule)
            other.turn(facts[len(facts) // 2:], [])
            self.assertTrue(net == other and other == net and not net != other)
            self.assertEqual(
                [net.closed(), net.beginnings(), net.kept(), len(net), net.book(), net.given()],
                [other.closed(), other.beginnings(), other.kept(), len(other), other.book(), other.given()])
            for fact in net.closed():
                self.assertEqual([net.leads(fact), net.would(fact), net.needs(fact), net.leans(fact)],
                                 [other.leads(fact), other.would(fact), other.needs(fact), other.leans(fact)])
            for rule in rules:
                self.assertEqual([net.matches(rule.label), net.partials(rule.label)], [other.matches(rule.label), other.partials(rule.label)])

    def test_deeds_and_their_opposites(self):
        for book, chance in self.drawn(30):
            net = Net(book)
            net.turn(sorted({chance.pattern(chance.names) for _ in range(4)}), [])
            kept, fact = net.copy(), ("fresh", "a")
            came, went = net.tell(fact)
            self.assertEqual(net.take(fact), (went, came))
            self.assertTrue(net == kept)
            rule = chance.rule("v", 2)
            came, went = net.add(rule)
            self.assertEqual(net.drop("v"), (went, came))
            self.assertTrue(net == kept)
            for rule in book.rules()[-1:]:
                came, went = net.drop(rule.label)
                self.assertEqual(net.add(rule), (went, came))
                self.assertTrue(net == kept)
            facts = net.given()[:2]
            self.assertEqual(net.turn([fact], facts), net.turn(facts, [fact])[::-1])
            self.assertTrue(net == kept)

    def test_turn_comes_to_where_single_deeds_come_to(self):
        for book, chance in self.drawn(15):
            first = sorted({chance.pattern(chance.names) for _ in range(3)})
            told = sorted({chance.pattern(chance.names) for _ in range(2)} - set(first))
            for order in list(permutations([("tell", fact) for fact in told] + [("take", fact) for fact in first[:2]]))[:8]:
                one, other = Net(book), Net(book)
                one.turn(first, [])
                other.turn(first, [])
                before = one.closed()
                self.assertEqual(one.turn(told[::-1], first[:2][::-1]), came_and_went(before, one.closed()))
                for word, fact in order:
                    (other.tell if word == "tell" else other.take)(fact)
                self.assertTrue(one == other)
                self.assertEqual(one.closed(), other.closed())

    def test_copies_go_their_own_ways(self):
        for book, chance in self.drawn(15):
            net, rules, given, ahead = Net(book), book.rules(), set(), None
            for _ in range(4):
                ahead = (rules, known(rules, given))
                rules, given, _ = self.step(net, rules, given, chance)
            other = net.copy()
            self.same(other, rules, given, ahead)
            self.step(other, rules, given, chance)
            self.same(net, rules, given, ahead)
        fresh = Net(WAYS).copy()
        self.assertEqual([fresh.turned(), fresh.book()], [[], WAYS])


class Beginnings(unittest.TestCase):
    def test_how_they_are_written(self):
        rule = Rule("r", ("p", "Z"), [("q", "Y", "a"), ("q", "Y", "Z"), ("s",)], [("Z", "Y"), ("b", "Y"), ("Y", "Z"), ("Z", "a")])
        self.assertEqual(Net(Book([rule])).beginnings(), [
            ([("q", "A", "a")], [("A", "b")]), ([("q", "A", "a"), ("q", "A", "B")], [("A", "B"), ("A", "b"), ("B", "a")]),
            ([("q", "A", "a"), ("q", "A", "B"), ("s",)], [("A", "B"), ("A", "b"), ("B", "a")])])
        many = Rule("r", ("p",), [("p", "V", "U", "Z"), ("p", "Y", "X", "V")], [("X", "U")])
        self.assertEqual(Net(Book([many])).beginnings(), [
            ([("p", "A", "B", "C")], []), ([("p", "A", "B", "C"), ("p", "D", "E", "A")], [("B", "E")])])
        self.assertEqual([Net(Book([])).beginnings(), Net(Book([Rule("r", ("p",), [])])).beginnings()], [[], []])

    def test_the_same_under_other_letters_are_kept_once(self):
        told = [("q", "X", "Y"), ("q", "Y", "X")]
        book = Book([
            Rule("one", ("p", "X"), told, [("X", "Y")]), Rule("two", ("u", "B"), [("q", "B", "A"), ("q", "A", "B")], [("A", "B"), ("B", "A")]),
            Rule("three", ("v", "X"), told), Rule("four", ("v", "X"), told[::-1]),
        ])
        net = Net(book)
        pairs = [([("q", "A", "B")], []), ([("q", "A", "B")], [("A", "B")])]
        self.assertEqual(net.beginnings(), [
            pairs[0], pairs[1], (pairs[0][0] + [("q", "B", "A")], []), (pairs[0][0] + [("q", "B", "A")], [("A", "B")])])
        net.turn([("q", "a", "b"), ("q", "b", "a"), ("q", "c", "c")], [])
        self.assertEqual([net.kept(), net.partials("one"), net.partials("three")], [3 + 2 + 3 + 2, [2, 2], [3, 3]])

    def test_turned_with_beginnings_that_come_and_go_with_their_rules(self):
        net = Net(Book([STEP]))
        net.turn(ROW, [])
        net.add(FAR)
        self.assertEqual(net.turned(), [
            (([("way", "A", "B")], []), [("a", "b"), ("a", "c"), ("b", "c")], []),
            (([("way", "A", "B"), ("way", "B", "C")], []), [("a", "b", "c")], [])])
        # The first beginning is one of another rule, too, which stays.
        net.add(Rule("wide", ("wide",), [("way", "U", "V")]))
        self.assertEqual(net.turned(), [])
        net.drop("far")
        self.assertEqual(net.turned(), [
            (([("way", "A", "B")], []), [], [("a", "c")]), (([("way", "A", "B"), ("way", "B", "C")], []), [], [("a", "b", "c")])])
        net.turn([], [])
        self.assertEqual(net.turned(), [])


class Parts(unittest.TestCase):
    def test_facts_that_only_lead_to_one_another(self):
        net = Net(NEST)
        net.tell(("sun",))
        self.assertEqual([net.needs(("hen",)), net.leans(("hen",)), net.leads(("egg",))], [[("sun",)], ["dawn", "one"], [("dawn", ()), ("two", ())]])
        self.assertEqual(net.drop("dawn"), ([], [("egg",), ("hen",)]))
        self.assertEqual([net.tell(("egg",)), net.tell(("hen",))], [([("egg",), ("hen",)], []), ([], [])])
        self.assertEqual([net.needs(("hen",)), net.take(("egg",)), net.take(("hen",))], [[], ([], []), ([], [("egg",), ("hen",)])])

    def test_rules_without_told_patterns(self):
        net = Net(Book([Rule("sun", ("sun",), []), Rule("day", ("day",), [("sun",)])]))
        self.assertEqual([net.closed(), net.given(), net.matches("sun"), net.partials("sun")], [[("day",), ("sun",)], [], [()], []])
        self.assertEqual([net.leads(("sun",)), net.leans(("day",)), net.needs(("day",)), net.kept()], [[("sun", ())], ["day", "sun"], [], 1])
        self.assertEqual([net.tell(("sun",)), net.drop("sun"), net.turned()], [([], []), ([], []), []])

    def test_would_changes_nothing(self):
        net = Net(WAYS)
        net.turn(ROW, [])
        before = [net.turned(), net.given(), net.closed()]
        self.assertEqual(net.would(ROW[0]), ([], [("road", "a", "b"), ("way", "a", "b"), ("way", "a", "c")]))
        self.assertEqual(net.would(("way", "a", "b")), ([], []))
        self.assertEqual(len(net.would(CA)[0]), 7)
        self.assertEqual([net.turned(), net.given(), net.closed()], before)

    def test_what_is_in_a_net(self):
        net = Net(WAYS)
        net.turn(ROW, [])
        for fact in net.closed():
            self.assertIs(fact in net, True)
        for thing in ODD + [CA, list(ROW[0]), ("way",), [("way", "a", "b")], ("way", ["a"], "b")]:
            self.assertIs(thing in net, False)

    def test_equal_and_unlike_nets(self):
        net = Net(WAYS)
        net.tell(ROW[0])
        for other in (Net(WAYS), Net(Book([STEP])), Net(Book([FAR, STEP])), Net(Book([]))):
            self.assertFalse(net == other)
            self.assertTrue(net != other)
            other.tell(ROW[0])
            self.assertIs(net == other, other.book() == WAYS)
        for thing in ODD + [Engine(ROW), [], net.closed(), WAYS]:
            self.assertFalse(net == thing)
            self.assertTrue(net != thing)


class Arguments(unittest.TestCase):
    def test_books(self):
        refuses_wrong(self, Net, ["book"], ["plain book"], [WAYS])
        self.assertEqual(Net(book=WAYS).book(), WAYS)

    def net(self):
        net = Net(WAYS)
        net.turn(ROW, [])
        return net

    def test_tell_and_take(self):
        net = self.net()
        for error, thing in WRONG["fact"]:
            for call in (net.tell, net.leads, net.would, net.needs, net.leans):
                refused(self, error, thing, call, thing)
                refused(self, error, thing, call, fact=thing)
        refused(self, TakenName, ROW[1], net.tell, ROW[1])
        for thing in ODD + NO_FACTS + [CA, ("way", "a", "b"), list(ROW[0])]:
            refused(self, UnknownName, thing, net.take, thing)
            refused(self, UnknownName, thing, net.take, fact=thing)
        self.assertEqual([net.given(), len(net.turned())], [ROW, 3])

    def test_turn(self):
        net = self.net()
        stores = [[("road", "c", "d")], [], ROW, [ROW[1], CA, ROW[0]], None, [("Road",)]]
        for error, thing in WRONG["store"]:
            for taken in stores:
                refused(self, error, thing, net.turn, thing, taken)
                refused(self, error, thing, net.turn, taken=taken, told=thing)
            refused(self, error, thing, net.turn, [CA], thing)
            refused(self, error, thing, net.turn, [], thing)
        # Stores are looked at one behind the other, the least fact being told.
        row = [ROW[1], CA, ROW[0]]
        for taken in stores:
            refused(self, TakenName, row[2], net.turn, row, taken)
            refused(self, TakenName, row[0], net.turn, row[:2], taken)
        away = [("road", "z", "z"), ROW[0], ("road", "d", "d"), ("way", "a", "b")]
        refused(self, UnknownName, away[2], net.turn, [CA], away)
        refused(self, UnknownName, away[0], net.turn, [], away[:2])
        # What is told and taken at once was not given ahead of it.
        refused(self, UnknownName, CA, net.turn, [CA], [CA])
        self.assertEqual([net.given(), len(net.turned())], [ROW, 3])
        self.assertEqual([net.turn([], []), net.turned()], [([], []), []])

    def test_rules(self):
        net = self.net()
        for error, thing in WRONG["plain rule"]:
            refused(self, error, thing, net.add, thing)
            refused(self, error, thing, net.add, rule=thing)
        for rule in (STEP, Rule("far", ("p",), [])):
            refused(self, TakenName, rule.label, net.add, rule)
        denied = Rule("step", ("p",), [], None, [("q",)])
        refused(self, NotPlain, denied, net.add, denied)
        for thing in ODD + NO_NAMES + ["none", ["step"], STEP]:
            for call in (net.drop, net.matches, net.partials):
                refused(self, UnknownName, thing, call, thing)
                refused(self, UnknownName, thing, call, label=thing)
        self.assertEqual(net.add(LONG), ([], []))
        self.assertEqual(net.book().labels(), ["step", "far", "long"])

    def test_lists_that_are_changed_afterwards_change_nothing(self):
        told, taken = TOWN[::-1], []
        net = Net(WAYS)
        came, went = net.turn(told, taken)
        for thing in (told, taken, came, went):
            thing.clear()
        for call, more in (
            (net.given, []), (net.closed, []), (net.beginnings, []), (net.turned, []), (net.matches, ["far"]), (net.partials, ["far"]),
            (net.leads, [("way", "a", "a")]), (net.needs, [("way", "a", "a")]), (net.leans, [("way", "a", "a")]),
        ):
            first = call(*more)
            kept = copy.deepcopy(first)
            if call in (net.turned, net.beginnings):
                for part in first:
                    for one in (*part, *part[0]) if call == net.turned else part:
                        if isinstance(one, list):
                            one.clear()
            first.clear()
            self.assertTrue(kept)
            self.assertEqual(call(*more), kept)
        came, went = net.would(CA)
        went.clear()
        self.assertEqual(len(net.would(CA)[1]), 7)
        self.assertEqual([net.given(), len(net)], [sorted(TOWN), 13])


if __name__ == "__main__":
    unittest.main()
