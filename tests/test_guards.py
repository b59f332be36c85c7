"""[180] to [184] Guards: what breaks them and repairs that, judged by going through all lists of facts."""

import unittest

from neverapart.errors import InvalidGuard, NotPlain
from neverapart.guards import Guard, blames, breaks, fewest, fullest, perhaps, repairs, sound, surely, tellable
from neverapart.rules import Book, Question, Rule
from plainly import (
    BACK, DRY, NO_FACTS, NO_NAMES, ODD, ROW, STEP, TOWN, TWIN, TWO, WAYS, Chance, all_answers, all_breaks, all_repairs, all_subsets,
    all_that_follows, but, empty_list, refused, refuses_wrong,
)


def drawn(many, facts=6, guards=2):
    for seed in range(many):
        chance = Chance(seed, names="ab", letters="XY")
        yield chance.book(chance.draw.randint(0, 2), 2), chance.guards(chance.draw.randint(0, guards)), chance.store(facts), chance


class Guards(unittest.TestCase):
    def test_what_a_guard_is_made_of(self):
        told, pairs = [("hut", "X"), ("hut", "Y")], [("X", "Y"), ("a", "X")]
        guard = Guard(label="twin", pairs=pairs, told=told)
        self.assertEqual([guard.label, guard.told, guard.pairs, BACK.pairs, Guard("g", []).told], ["twin", told, pairs, [], []])
        guard.told.clear(), guard.pairs.clear()
        told.append(1), pairs.append(1)
        self.assertEqual([len(guard.told), len(guard.pairs)], [2, 2])
        self.assertTrue(Guard("g", [("p", "X")]) == Guard("g", [("p", "X")], []) and not Guard("g", []) != Guard("g", [], []))
        for other in (Guard("g", TWIN.told, TWIN.pairs), Guard("twin", TWIN.told), Guard("twin", TWIN.told[::-1], TWIN.pairs), Guard("twin", TWIN.told, [("Y", "X")]),
                      Question([], TWIN.told, TWIN.pairs), None, "twin"):
            self.assertFalse(TWIN == other)

    def test_wrong_arguments_of_a_guard(self):
        lists = but(ODD, empty_list) + [(("p", "X"),), [("p", "X"), None], [["p", "X"]]] + [[thing] for thing in NO_FACTS if thing != ("road", "X")]
        no_pairs = but(ODD, empty_list, lambda thing: thing is None) + [(("X", "Y"),), [("X",)], [("X", "X")], [("a", "b")], [("X", "Y", "Z")], [["X", "Y"]], [("X", None)]]
        for label in NO_NAMES:
            for worse in ([], None):
                refused(self, InvalidGuard, label, Guard, label, worse, worse)
                refused(self, InvalidGuard, label, Guard, pairs=7, told=worse, label=label)
        for told in lists:
            refused(self, InvalidGuard, told, Guard, "g", told)
            refused(self, InvalidGuard, told, Guard, "g", told, 7)
        for pairs in no_pairs:
            # A wrong form comes ahead of variables that stand in no told pattern.
            for told in (TWIN.told, [("p", "X")], []):
                refused(self, InvalidGuard, pairs, Guard, "g", told, pairs)
        for told, pairs in (([], [("X", "a")]), ([("p", "X")], [("X", "Y")]), ([("p", "a")], [("a", "X")])):
            refused(self, InvalidGuard, pairs, Guard, "g", told, pairs)
            refused(self, InvalidGuard, pairs, Guard, told=told, pairs=pairs, label="g")

    def test_wrong_arguments_of_functions(self):
        three = ["book", "guards", "store"]
        for call in (sound, breaks, blames, repairs, fewest):
            refuses_wrong(self, call, three, ["plain book", "guards", "store"], [WAYS, [BACK], ROW])
        for call in (surely, perhaps):
            refuses_wrong(self, call, three + ["question"], ["plain book", "guards", "store", "question"], [WAYS, [BACK], ROW, TWO])
        for call in (tellable, fullest):
            refuses_wrong(self, call, three + ["could"], ["plain book", "guards", "store", "store"], [WAYS, [BACK], ROW, TOWN])
        denied = Book([STEP, DRY])
        refused(self, NotPlain, denied, sound, denied, [BACK, BACK], None)

    def test_nothing_is_shared(self):
        store, could = TOWN[::-1], ROW[::-1] + [("hut", "a")]
        for call, more in ((breaks, []), (blames, []), (repairs, []), (surely, [TWO]), (perhaps, [Question([], [])]), (tellable, [could]), (fullest, [could])):
            book = Book([STEP]) if call in (tellable, fullest, surely) else WAYS
            first = call(book, [BACK], store, *more)
            kept = [list(one) if isinstance(one, list) else one for one in first]
            for one in first:
                if isinstance(one, list):
                    one.append(1)
            first.append(1)
            self.assertTrue(kept)
            self.assertEqual(call(book, [BACK], store, *more), kept)
        self.assertEqual([store, could], [TOWN[::-1], ROW[::-1] + [("hut", "a")]])


class Judged(unittest.TestCase):
    def test_sound_and_breaks(self):
        sounds = many = 0
        for book, guards, store, _ in drawn(350, 8, 3):
            expected = all_breaks(book.rules(), guards, store)
            self.assertEqual([breaks(book, guards, store), breaks(store=store[::-1], guards=guards[::-1], book=book)], [expected] * 2)
            self.assertIs(sound(book, guards, store), expected == [])
            self.assertIs(sound(store=store, guards=guards, book=book), expected == [])
            sounds, many = sounds + (expected == []), many + (len(expected) > 3)
        self.assertTrue(sounds > 50 and many > 20, (sounds, many))
        self.assertEqual(breaks(Book([]), [Guard("g", [("p", "Y"), ("q", "X", "Y")])], [("p", "b"), ("q", "a", "b")]), [("g", ("b", "a"))])

    def test_blames_repairs_and_fewest(self):
        found = {"sound": 0, "one": 0, "many": 0, "never": 0}
        for book, guards, store, _ in drawn(500, 6, 3):
            rules = book.rules()
            bad = [set(some) for some in all_subsets(store) if all_breaks(rules, guards, some)]
            blamed = sorted(sorted(some) for some in bad if not any(less < some for less in bad))
            out = all_repairs(rules, guards, store)
            self.assertEqual([blames(book, guards, store), repairs(book, guards, store)], [blamed, out])
            self.assertEqual([blames(store=store[::-1], guards=guards, book=book), repairs(store=store[::-1], book=book, guards=guards)], [blamed, out])
            self.assertEqual(fewest(book, guards, store), min(map(len, out)) if out else None)
            found["never" if not out else "sound" if out == [[]] else "one" if len(out) == 1 else "many"] += 1
        self.assertTrue(min(found.values()) > 3, found)

    def test_surely_and_perhaps(self):
        unlike = none = 0
        for book, guards, store, chance in drawn(500, 7, 3):
            rules, question = book.rules(), chance.question(2)
            lists = [set(all_answers(question, all_that_follows(rules, [f for f in store if f not in out]))) for out in all_repairs(rules, guards, store)]
            expected = [None, None] if not lists else [sorted(set.intersection(*lists)), sorted(set.union(*lists))]
            self.assertEqual([surely(book, guards, store, question), perhaps(book, guards, store, question)], expected)
            self.assertEqual([surely(question=question, store=store, guards=guards, book=book)], expected[:1])
            none, unlike = none + (not lists), unlike + (expected[0] != expected[1])
        self.assertTrue(unlike > 10 and none > 3, (unlike, none))

    def test_tellable_and_fullest(self):
        seen = set()
        for book, guards, store, chance in drawn(500, 3, 4):
            rules, could = book.rules(), chance.store(6)
            more = sorted(fact for fact in could if fact not in store)
            fits = [some for some in all_subsets(more) if not all_breaks(rules, guards, store + some)]
            self.assertEqual(tellable(book, guards, store, could), [some[0] for some in fits if len(some) == 1])
            self.assertEqual(tellable(could=could[::-1], store=store, guards=guards, book=book), tellable(book, guards, store, could))
            full = sorted(some for some in fits if not any(set(some) < set(other) for other in fits))
            self.assertEqual([fullest(book, guards, store, could), fullest(could=could[::-1], book=book, store=store[::-1], guards=guards)], [full, full])
            seen.add(min(len(full), 2))
        self.assertEqual(seen, {0, 1, 2})

    def test_edges(self):
        never, book = Guard("never", []), Book([Rule("sun", ("sun",), [])])
        for store in ([], ROW):
            # Not even the store of no facts is sound.
            for guards in ([never], [Guard("dark", [("sun",)])]):
                self.assertEqual([sound(book, guards, store), blames(book, guards, store), repairs(book, guards, store), fewest(book, guards, store)], [False, [[]], [], None])
                self.assertEqual([surely(book, guards, store, TWO), perhaps(book, guards, store, TWO)], [None, None])
                self.assertEqual([tellable(book, guards, store, TOWN), fullest(book, guards, store, TOWN), fullest(book, guards, store, [])], [[], [], []])
        self.assertEqual([breaks(Book([]), [never], []), breaks(Book([]), [never, BACK], [("way", "a", "a")])], [[("never", ())], [("back", ("a",)), ("never", ())]])
        # A sound store has no blames, and the repair of nothing alone.
        self.assertEqual([blames(WAYS, [BACK], ROW), repairs(WAYS, [BACK], ROW), fewest(WAYS, [BACK], ROW), blames(WAYS, [], TOWN)], [[], [[]], 0, []])
        # Facts of could that are in the store are left aside.
        self.assertEqual([tellable(WAYS, [BACK], ROW, ROW), fullest(WAYS, [BACK], ROW, ROW), fullest(WAYS, [BACK], ROW, ROW + [("hut", "a")])], [[], [[]], [[("hut", "a")]]])
        self.assertEqual([fullest(WAYS, [BACK], ROW, []), fullest(WAYS, [BACK], TOWN, [("hut", "a")]), tellable(WAYS, [BACK], TOWN, [("hut", "a")])], [[[]], [], []])
        nine = [("hut", name) for name in "abcdef"] + [("p", name) for name in "abc"]
        self.assertEqual([len(repairs(WAYS, [TWIN], nine)), fewest(WAYS, [TWIN], nine), len(blames(WAYS, [TWIN], nine))], [6, 5, 15])
        self.assertEqual(fullest(WAYS, [TWIN], [], nine), [[("hut", name)] + nine[6:] for name in "abcdef"])


if __name__ == "__main__":
    unittest.main()
