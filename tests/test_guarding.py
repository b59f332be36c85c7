"""[190] to [193] Guards on all stores: judged by bodies, by sound and closed alone, and by firing on all small stores."""

import unittest

from neverapart.closing import closed
from neverapart.deeds import Deed
from neverapart.errors import InvalidGuard, NotPlain
from neverapart.firing import run
from neverapart.guarding import (
    alike_under, check_leak, follows_under, guard_follows, guards_alike, lean_guards, lean_under, leak, parting_guards, parting_under,
    same_under_guards,
)
from neverapart.guards import Guard, sound
from neverapart.rules import Book, Question, Rule
from plainly import (
    BACK, DRY, FAR, GO, LONG, ODD, ROW, STEP, TIRE, TWIN, TWO, WAYS, Chance, all_answers, all_bodies, all_breaks, all_matches, all_subsets,
    all_that_follows, all_ways_to_name, apart, names_in_question, names_in_rules, put, refused, refuses_wrong, variables_in, without_one,
)

MEET = Guard("meet", [("way", "X", "Y"), ("way", "Y", "X")])
LOOP = Guard("loop", [("road", "X", "X")])
LONE = Rule("lone", ("lost", "X", "Y"), [("way", "X", "Y"), ("way", "Y", "X")])
ONE = Guard("one", [("at", "X"), ("at", "Y")], [("X", "Y")])
CALL = Deed("call", 0, [("hut", "X")], [], [("at", "X")])


def names_in_guards(guards):
    return sorted({name for guard in guards for name in names_in_question(guard)})


def guard_bodies(guard, names):
    ways = [way for way in all_ways_to_name(variables_in(guard.told), names) if apart(guard.pairs, way)]
    return [sorted({put(p, way) for p in guard.told}) for way in ways]


def guard_is_behind(rules, guards, guard):
    """Whether a guard follows, by its bodies."""
    names = sorted({*names_in_rules(rules), *names_in_guards(guards + [guard])})
    return all(all_breaks(rules, guards, store) for store in guard_bodies(guard, names))


def rule_is_behind(rules, guards, rule):
    names = sorted({*names_in_rules(rules + [rule]), *names_in_guards(guards)})
    return all(fact in all_that_follows(rules, store) or all_breaks(rules, guards, store) for store, fact in all_bodies(rule, names))


def drawn(many, pairs=True):
    for seed in range(many):
        chance = Chance(seed, names="ab", kinds=(("p", 1), ("q", 2), ("s", 0)), letters="XY", pairs=pairs and seed % 3)
        yield chance, chance.book(chance.draw.randint(0, 2), 2), chance.guards(chance.draw.randint(0, 3))


class Following(unittest.TestCase):
    def test_guards_that_follow(self):
        seen = {True: 0, False: 0}
        for chance, book, guards in drawn(300):
            guard = chance.guard("g", 3)
            if chance.draw.random() < 0.3 and guards:
                one = guards[0]
                guard = Guard("g", one.told + chance.told(1), one.pairs)
            expected = guard_is_behind(book.rules(), guards, guard)
            self.assertIs(guard_follows(book, guards, guard), expected)
            self.assertIs(guard_follows(guard=guard, guards=guards[::-1], book=book), expected)
            seen[expected] += 1
        self.assertTrue(min(seen.values()) > 40, seen)

    def test_lists_of_guards(self):
        seen = {"alike": 0, "parted": 0, "not empty": 0}
        for chance, book, one in drawn(300):
            other = chance.guards(chance.draw.randint(0, 2))
            if chance.draw.random() < 0.5:
                other = [Guard("g" + g.label, g.told[::-1] + g.told[:1], g.pairs) for g in one] + ([chance.guard("z", 3)] if chance.draw.random() < 0.3 else [])
            rules = book.rules()
            alike = all(guard_is_behind(rules, one, g) for g in other) and all(guard_is_behind(rules, other, g) for g in one)
            self.assertIs(guards_alike(book, one, other), alike)
            self.assertIs(guards_alike(other=one, book=book, one=other), alike)
            store = parting_guards(book, one, other)
            self.assertEqual(store is None, alike)
            if store is not None:
                self.assertEqual(store, sorted(store))
                self.assertNotEqual(sound(book, one, store), sound(book, other, store))
                self.assertNotEqual(all_breaks(rules, one, store) == [], all_breaks(rules, other, store) == [])
                for less in without_one(store):
                    self.assertTrue(sound(book, one, less) and sound(book, other, less))
                self.assertEqual(parting_guards(other=other, one=one, book=book), store)
            seen["alike" if alike else "parted"] += 1
            seen["not empty"] += alike and one != [] and other != []
        self.assertTrue(min(seen.values()) > 30, seen)

    def test_lean_guards(self):
        shorter = 0
        for chance, book, guards in drawn(200):
            guards = guards + [Guard("x" + g.label, g.told + chance.told(1), g.pairs) for g in guards[:1]]
            chance.draw.shuffle(guards)
            kept = list(guards)
            for at in reversed(range(len(guards))):
                if guard_is_behind(book.rules(), kept[:at] + kept[at + 1:], kept[at]):
                    kept = kept[:at] + kept[at + 1:]
            self.assertEqual([lean_guards(book, guards), lean_guards(guards=guards, book=book)], [kept, kept])
            shorter += len(kept) < len(guards)
        self.assertGreater(shorter, 60)
        # From the last to the first one.
        self.assertEqual([lean_guards(WAYS, [BACK, MEET]), lean_guards(WAYS, [MEET, BACK])], [[BACK], [MEET]])
        self.assertEqual([lean_guards(Book([Rule("sun", ("sun",), [])]), [Guard("g", [("sun",)]), BACK]), lean_guards(WAYS, [])], [[Guard("g", [("sun",)])], []])

    def test_guards_by_hand(self):
        self.assertTrue(guard_follows(WAYS, [BACK], MEET) and guard_follows(WAYS, [MEET], BACK) and not guard_follows(Book([]), [BACK], MEET))
        never = Guard("never", [])
        self.assertTrue(guard_follows(WAYS, [never], BACK) and not guard_follows(WAYS, [BACK], never))
        self.assertEqual([parting_guards(WAYS, [never], [BACK]), parting_guards(WAYS, [BACK], [never]), guards_alike(WAYS, [never], [never, BACK])], [[], [], True])
        # Alike by one book, not by another one; the order does not count.
        self.assertTrue(guards_alike(WAYS, [BACK, LOOP], [MEET]) and not guards_alike(Book([]), [BACK, LOOP], [MEET]))
        self.assertEqual(guards_alike(WAYS, [BACK, LOOP], [LOOP, BACK]), True)
        # Names of guards: what is broken for a and for all others is broken for all.
        some = [Guard("one", [("p", "a")]), Guard("two", [("p", "X")], [("X", "a")])]
        self.assertTrue(guards_alike(Book([]), some, [Guard("all", [("p", "X")])]))
        self.assertEqual(parting_guards(Book([]), some[:1], [Guard("all", [("p", "X")])])[0][0], "p")


class Under(unittest.TestCase):
    def bigger(self, chance, book, guards):
        """A book with a rule more that may follow only under the guards."""
        told = [p for guard in guards[:1] for p in guard.told] + chance.told(1)
        terms = variables_in(told) or ["a"]
        return Book(book.rules() + [Rule("more", chance.pattern(terms), told, guards[0].pairs if guards else [])])

    def test_rules_that_follow_under_guards(self):
        seen = {True: 0, False: 0, "alone": 0}
        for chance, book, guards in drawn(300):
            rule = self.bigger(chance, book, guards).rule("more") if chance.draw.random() < 0.5 else chance.rule("r", 2)
            expected = rule_is_behind(book.rules(), guards, rule)
            self.assertIs(follows_under(book, guards, rule), expected)
            self.assertIs(follows_under(rule=rule, guards=guards, book=book), expected)
            seen[expected] += 1
            seen["alone"] += expected and not rule_is_behind(book.rules(), [], rule)
        self.assertTrue(min(seen.values()) > 40, seen)

    def parts(self, guards, one, other, store):
        """Whether a store is as [191] says, by sound and closed alone."""
        sounds = [sound(book, guards, store) for book in (one, other)]
        return any(sounds) and (not all(sounds) or closed(one, store) != closed(other, store))

    def test_books_under_guards(self):
        seen = {"alike": 0, "parted": 0, "by guards": 0}
        for chance, book, guards in drawn(300):
            other = self.bigger(chance, book, guards) if chance.draw.random() < 0.6 else chance.book(2, 2)
            alike = all(rule_is_behind(book.rules(), guards, r) for r in other.rules()) and all(rule_is_behind(other.rules(), guards, r) for r in book.rules())
            self.assertIs(alike_under(guards, book, other), alike)
            self.assertIs(alike_under(other=book, one=other, guards=guards), alike)
            store = parting_under(guards, book, other)
            self.assertEqual(store is None, alike)
            if store is None:
                plain = all(rule_is_behind(book.rules(), [], r) for r in other.rules()) and all(rule_is_behind(other.rules(), [], r) for r in book.rules())
                seen["by guards"] += not plain
                for _ in range(4):
                    facts = chance.store(5)
                    self.assertFalse(self.parts(guards, book, other, facts))
            else:
                self.assertTrue(self.parts(guards, book, other, store))
                self.assertFalse([less for less in without_one(store) if self.parts(guards, book, other, less)])
                self.assertEqual([parting_under(one=book, other=other, guards=guards), store], [store, sorted(store)])
            seen["alike" if alike else "parted"] += 1
        self.assertTrue(min(seen.values()) > 30, seen)

    def test_lean_under(self):
        shorter = 0
        for chance, book, guards in drawn(200):
            rules = self.bigger(chance, book, guards).rules() + [chance.rule("z", 2)]
            chance.draw.shuffle(rules)
            kept = list(rules)
            for at in reversed(range(len(rules))):
                if rule_is_behind(kept[:at] + kept[at + 1:], guards, kept[at]):
                    kept = kept[:at] + kept[at + 1:]
            self.assertEqual([lean_under(guards, Book(rules)), lean_under(book=Book(rules), guards=guards)], [Book(kept)] * 2)
            shorter += len(kept) < len(rules)
        self.assertGreater(shorter, 50)
        twice = [Rule("x", LONE.head, LONE.told), LONE]
        self.assertEqual([lean_under([], Book(twice)), lean_under([], Book(twice[::-1])), lean_under([BACK], WAYS + Book(twice))], [Book(twice[:1]), Book(twice[1:]), WAYS])
        # Under a guard that no store keeps everything follows.
        self.assertEqual(lean_under([Guard("never", [])], WAYS), Book([]))

    def test_books_by_hand(self):
        both = WAYS + Book([LONE])
        self.assertTrue(alike_under([BACK], WAYS, both) and not alike_under([LOOP], WAYS, both) and not alike_under([], WAYS, both))
        # With any further rules on both sides, and any further guards.
        more = Book([Rule("r", ("big", "X"), [("lost", "X", "Y")]), LONG])
        self.assertTrue(alike_under([BACK, LOOP], WAYS + more, both + more))
        store = parting_under([LOOP], WAYS, both)
        self.assertTrue(self.parts([LOOP], WAYS, both, store))
        # A book that breaks a guard where the other one does not.
        bad = Book([Rule("bad", ("foe",), [("sun",)])])
        self.assertEqual([parting_under([Guard("g", [("foe",)])], bad, Book([])), parting_under([], bad, Book([]))], [[("sun",)], [("sun",)]])
        always = Book([Rule("bad", ("foe",), [])])
        self.assertEqual(parting_under([Guard("g", [("foe",)])], always, Book([])), [])
        # Where all stores are unsound by both, they are alike.
        self.assertTrue(alike_under([Guard("g", [("foe",)])], always, always + WAYS))
        # No two facts of less part them, though some one fact less does.
        self.assertEqual(parting_under([Guard("g", [("p",), ("q",)])], Book([Rule("r", ("q",), [("p",)])]), Book([])), [("p",)])

    def test_questions_under_guards(self):
        seen = {True: 0, False: 0, "by guards": 0}
        for chance, book, guards in drawn(400):
            one, other = chance.question(2), chance.question(2)
            if chance.draw.random() < 0.6:
                other = Question(one.columns, one.told, one.pairs + chance.some_pairs(one.told))
                if guards and chance.draw.random() < 0.5:
                    one = Question([], guards[0].told + one.told, guards[0].pairs)
                    other = Question([], one.told + chance.told(1), one.pairs)
            expected = self.same_questions(book.rules(), guards, one, other) and self.same_questions(book.rules(), guards, other, one)
            self.assertIs(same_under_guards(book, guards, one, other), expected)
            self.assertIs(same_under_guards(other=one, one=other, guards=guards, book=book), expected)
            seen[expected] += 1
            plain = self.same_questions(book.rules(), [], one, other) and self.same_questions(book.rules(), [], other, one)
            seen["by guards"] += expected and not plain
        self.assertTrue(min(seen.values()) > 30, seen)

    def same_questions(self, rules, guards, one, other):
        names = sorted({*names_in_rules(rules), *names_in_guards(guards), *names_in_question(one), *names_in_question(other)})
        for way in all_ways_to_name(variables_in(one.told), names):
            store = sorted({put(p, way) for p in one.told})
            if apart(one.pairs, way) and not all_breaks(rules, guards, store):
                if tuple(way[column] for column in one.columns) not in all_answers(other, all_that_follows(rules, store)):
                    return False
        return True


class Leaks(unittest.TestCase):
    def behind(self, deed, names, store):
        taken = {put(deed.told[at], names) for at in deed.takes}
        return sorted((set(store) - taken) | {put(p, names) for p in deed.puts})

    def leaks(self, deed, guards, store, match):
        """Whether a firing leads from a sound store to one that is not sound."""
        if all_breaks([], guards, store):
            return False
        for names in all_matches(deed.told, deed.pairs, store, deed.denied):
            if tuple(names.values()) == match:
                after = self.behind(deed, names, store)
                return after != sorted(store) and all_breaks([], guards, after) != []
        return False

    def is_leak(self, deeds, guards, value):
        store, label, match = value
        found = [deed for deed in deeds if deed.label == label]
        return bool(found) and self.leaks(found[0], guards, store, match) and not any(self.leaks(found[0], guards, less, match) for less in without_one(store))

    def drawn(self, many):
        for seed in range(many):
            chance = Chance(seed, names="a", kinds=(("p", 1), ("t", 1), ("s", 0)), letters="XY")
            chance.names = ["a"]
            yield [chance.deed(label) for label in "de"[:chance.draw.randint(1, 2)]], chance.guards(chance.draw.randint(1, 2)), chance

    def test_drawn_deeds_on_all_small_stores(self):
        seen = {"none": 0, "some": 0, "takes": 0, "denied": 0, "pairs": 0}
        every = [(word, name) for word in "pt" for name in "abc"] + [("s",)]
        stores = all_subsets(every)
        for deeds, guards, chance in self.drawn(150):
            value = leak(deeds, guards)
            self.assertEqual(leak(guards=guards, deeds=deeds), value)
            if value is None:
                seen["none"] += 1
                for store in stores[::3]:
                    if not all_breaks([], guards, store):
                        for deed in deeds:
                            for names in all_matches(deed.told, deed.pairs, store, deed.denied):
                                self.assertFalse(all_breaks([], guards, self.behind(deed, names, store)))
                        for done, end in (run(deeds, store, 3),):
                            self.assertFalse(all_breaks([], guards, end))
            else:
                self.assertTrue(self.is_leak(deeds, guards, value), value)
                self.assertEqual(value[0], sorted(value[0]))
                self.bend(deeds, guards, value, chance)
                deed = next(deed for deed in deeds if deed.label == value[1])
                seen["some"] += 1
                seen["takes"] += deed.takes != []
                seen["denied"] += deed.denied != []
                seen["pairs"] += deed.pairs != [] or any(guard.pairs for guard in guards)
        self.assertTrue(min(seen.values()) > 5 and seen["none"] > 30, seen)

    def bend(self, deeds, guards, value, chance):
        store, label, match = value
        self.assertIs(check_leak(value=value, guards=guards, deeds=deeds), True)
        self.assertIs(check_leak(deeds, guards, (store[::-1], label, match)), True)
        bents = [(store + [fact], label, match) for fact in chance.store(3) if fact not in store] + [(less, label, match) for less in without_one(store)]
        bents += [(store, deed.label, match) for deed in deeds] + [(store, label, tuple(reversed(match))), (store, label, match[1:]), (store, label, match + ("a",))]
        bents += [(store, label, tuple(chance.draw.choice(["a", "x", "xx", "b"]) for _ in match)) for _ in range(3)]
        for bent in bents:
            self.assertIs(check_leak(deeds, guards, bent), self.is_leak(deeds, guards, bent), bent)
        for bent in ([store, label, match], (store, label), (store, label, match, ()), (tuple(store), label, match), (store, None, match), (store, [label], match),
                     (store, label, list(match)), (store, label, None), (store, label, match[:-1] + (None,)), (store + store[:1], label, match), (store + [None], label, match)):
            self.assertIs(check_leak(deeds, guards, bent), bool(bent == value and type(bent) is tuple) or bent == (store, label, match), bent)

    def test_two_columns_and_whole_runs(self):
        none = some = 0
        for seed in range(120):
            chance = Chance(seed, names="a", kinds=(("q", 2), ("p", 1)), letters="XYZ")
            deeds, guards = [chance.deed("d"), chance.deed("e")], chance.guards(2)
            value = leak(deeds, guards)
            some += value is not None
            if value is not None:
                self.assertTrue(self.is_leak(deeds, guards, value) and check_leak(deeds, guards, value))
                continue
            none += 1
            chance.names = list("abc")
            for _ in range(30):
                store = chance.store(5)
                if not all_breaks([], guards, store):
                    for many in range(5):
                        self.assertFalse(all_breaks([], guards, run(deeds, store, many)[1]))
                    for deed in deeds:
                        for names in all_matches(deed.told, deed.pairs, store, deed.denied):
                            self.assertFalse(all_breaks([], guards, self.behind(deed, names, store)))
        self.assertTrue(none > 20 and some > 20, (none, some))

    def test_deeds_by_hand(self):
        self.assertIsNone(leak([GO, TIRE], [ONE]))
        value = leak([GO, CALL], [ONE])
        self.assertEqual([value[1], len(value[0]), check_leak([GO, CALL], [ONE], value)], ["call", 2, True])
        # Ranks do not count: no deed that is greater is in the way of this one.
        higher = Deed("higher", 9, [("hut", "X")], [0], [])
        self.assertEqual(leak([higher, CALL], [ONE])[1], "call")
        # What is denied stands for what the guard would meet.
        shy = Deed("shy", 0, [("hut", "X")], [], [("at", "X")], None, [("at", "a")])
        self.assertTrue(check_leak([shy], [ONE], ([("at", "b"), ("hut", "a")], "shy", ("a",))))
        self.assertFalse(check_leak([shy], [ONE], ([("at", "a"), ("hut", "b")], "shy", ("b",))))
        alone = Deed("alone", 0, [("hut", "X")], [], [("at", "a")], None, [("at", "a")])
        self.assertIsNone(leak([alone], [Guard("g", [("at", "a"), ("at", "a")], None), Guard("h", [("hut", "Y")])]))
        # Two facts that are put in together.
        pair = Deed("pair", 0, [("hut", "X"), ("hut", "Y")], [0, 1], [("at", "X"), ("at", "Y")], [("X", "Y")])
        store, label, match = leak([pair], [ONE])
        self.assertEqual([len(store), label, len(match)], [2, "pair", 2])
        # A deed that puts nothing in, and guards that are never kept.
        self.assertEqual([leak([higher], [ONE]), leak([CALL], [Guard("never", [])]), leak([CALL], []), leak([], [ONE])], [None] * 4)
        # Of no facts: what is put in alone is enough.
        born = Deed("born", 0, [], [], [("sun",)])
        self.assertEqual(leak([born], [Guard("dark", [("sun",)])]), ([], "born", ()))
        self.assertEqual(leak([Deed("take", 0, [("sun",)], [0], [("sun",)])], [Guard("dark", [("sun",)])]), None)
        for thing in ODD:
            self.assertIs(check_leak([CALL], [ONE], thing), False)

    def test_names_of_deeds(self):
        # Only with the name that stands in its told pattern does the deed lead to what is not sound.
        key = Deed("key", 0, [("hut", "a"), ("key", "X")], [], [("at", "X")])
        guards = [Guard("both", [("at", "X"), ("hut", "X")]), TWIN]
        self.assertEqual(leak([key], guards), ([("hut", "a"), ("key", "a")], "key", ("a",)))
        # A name that is denied is not taken for a fresh one.
        for name in ("x", "xx"):
            shy = Deed("shy", 0, [("hut", "X")], [], [("at", "X")], None, [("hut", name), ("at", name)])
            value = leak([shy], [ONE])
            self.assertTrue(check_leak([shy], [ONE], value) and self.is_leak([shy], [ONE], value))
        # Names of other guards, too.
        some = [Guard("one", [("hut", "x")]), Guard("two", [("at", "X")])]
        self.assertTrue(self.is_leak([CALL], some, leak([CALL], some)))


class Arguments(unittest.TestCase):
    def test_wrong_arguments(self):
        for call, names, kinds, right in (
            (guard_follows, ["book", "guards", "guard"], ["plain book", "guards", "guard"], [WAYS, [BACK], MEET]),
            (guards_alike, ["book", "one", "other"], ["plain book", "guards", "guards"], [WAYS, [BACK], [MEET]]),
            (parting_guards, ["book", "one", "other"], ["plain book", "guards", "guards"], [WAYS, [BACK], [MEET]]),
            (lean_guards, ["book", "guards"], ["plain book", "guards"], [WAYS, [BACK]]),
            (follows_under, ["book", "guards", "rule"], ["plain book", "guards", "plain rule"], [WAYS, [BACK], LONE]),
            (alike_under, ["guards", "one", "other"], ["guards", "plain book", "plain book"], [[BACK], WAYS, WAYS]),
            (parting_under, ["guards", "one", "other"], ["guards", "plain book", "plain book"], [[BACK], WAYS, WAYS]),
            (lean_under, ["guards", "book"], ["guards", "plain book"], [[BACK], WAYS]),
            (same_under_guards, ["book", "guards", "one", "other"], ["plain book", "guards", "question", "question"], [WAYS, [BACK], TWO, TWO]),
            (leak, ["deeds", "guards"], ["deeds", "guards"], [[GO], [ONE]]),
            (check_leak, ["deeds", "guards", "value"], ["deeds", "guards", None], [[GO], [ONE], None]),
        ):
            refuses_wrong(self, call, names, kinds, right)
        denied = Book([STEP, DRY])
        refused(self, NotPlain, denied, guard_follows, denied, [BACK, BACK], None)
        twice = [BACK, BACK]
        refused(self, InvalidGuard, twice, alike_under, twice, denied, denied)

    def test_nothing_is_shared(self):
        guards, deeds = [BACK, MEET, TWIN], [GO, CALL]
        lean_guards(WAYS, guards).append(1)
        alone = [BACK]
        lean_guards(WAYS, alone).append(1)
        self.assertEqual(alone, [BACK])
        parting_guards(WAYS, guards, []).append(1)
        parting_under([LOOP], WAYS, WAYS + Book([LONE])).append(1)
        leak(deeds, [ONE])[0].append(1)
        self.assertEqual([guards, deeds, lean_guards(WAYS, guards)], [[BACK, MEET, TWIN], [GO, CALL], [BACK, TWIN]])
        self.assertEqual([len(leak(deeds, [ONE])[0]), sound(WAYS, guards, ROW), WAYS], [2, True, Book([STEP, FAR])])
        self.assertTrue(all(isinstance(fact, tuple) for fact in parting_guards(WAYS, guards, [])))


if __name__ == "__main__":
    unittest.main()
