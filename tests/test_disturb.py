"""[103] Deeds that go over one another: held against both orders at all matches, and in greater stores, too."""

import unittest

from neverapart.deeds import Deed
from neverapart.disturb import disturb
from plainly import (
    GO, TIRE, Chance, all_matches, all_subsets, all_ways_to_name, names_in_terms, put, refuses_wrong, variables_in,
)
from test_firing import plain_after


def is_match(deed, names, store):
    return names in all_matches(deed.told, deed.pairs, store, deed.denied)


def go_over(one, names, other, others, store):
    """As [103] says, in a store in which both are matches."""
    first, second = plain_after(one, names, store), plain_after(other, others, store)
    if not is_match(other, others, first) or not is_match(one, names, second):
        return False
    return plain_after(other, others, first) == plain_after(one, names, second)


def disturbed_at(one, other, match, another, store):
    names, others = dict(zip(variables_in(one.told), match)), dict(zip(variables_in(other.told), another))
    if not is_match(one, names, store) or not is_match(other, others, store):
        return False
    return not (one == other and match == another) and not go_over(one, names, other, others, store)


def all_disturbed(one, other):
    """Whether there are matches, by all names and as many others as there are variables, at which they do not go over."""
    terms = [("1", term) for term in variables_in(one.told)] + [("2", term) for term in variables_in(other.told)]
    parts = [p[1:] for deed in (one, other) for p in deed.told + deed.puts + deed.denied] + one.pairs + other.pairs
    for way in all_ways_to_name(terms, names_in_terms(*parts)):
        names, others = ({term: way[mark, term] for mark, term in way if mark == which} for which in "12")
        store = sorted({put(p, names) for p in one.told} | {put(p, others) for p in other.told})
        if disturbed_at(one, other, tuple(names.values()), tuple(others.values()), store):
            return True
    return False


def drawn(many=150):
    for seed in range(many):
        chance = Chance(seed, names="ab" if seed % 3 else "xa", kinds=(("p", 1), ("q", 2), ("s", 0), ("u", 1)), letters="XY")
        chance.names = chance.names[:1] if seed % 2 else chance.names
        one, other = chance.deed("j"), chance.deed("k")
        yield one, chance.draw.choice([other, other, other, one]), chance


class Disturb(unittest.TestCase):
    def test_drawn_deeds(self):
        seen = {True: 0, False: 0}
        for one, other, _ in drawn():
            value = disturb(one, other)
            self.assertEqual(value is not None, all_disturbed(one, other), (one.told, other.told))
            self.assertEqual(disturb(other, one) is None, value is None)
            seen[value is None] += 1
            if value is not None:
                store, match, another = value
                self.assertTrue(disturbed_at(one, other, match, another, store))
                names, others = dict(zip(variables_in(one.told), match)), dict(zip(variables_in(other.told), another))
                self.assertEqual(store, sorted({put(p, names) for p in one.told} | {put(p, others) for p in other.told}))
                self.assertEqual([type(value), disturb(one, other)], [tuple, value])
        self.assertTrue(min(seen.values()) > 30, seen)

    def test_further_facts_of_the_store_change_nothing(self):
        facts = [("p", "a"), ("p", "b"), ("q", "a", "b"), ("q", "b", "a"), ("q", "a", "a"), ("s",), ("u", "a"), ("u", "b")]
        free = 0
        for one, other, chance in drawn(60):
            if disturb(one, other) is None:
                free += 1
                for store in chance.draw.sample(all_subsets(facts), 20):
                    matches = all_matches(one.told, one.pairs, store, one.denied)
                    for names in matches:
                        for others in all_matches(other.told, other.pairs, store, other.denied):
                            if one != other or names != others:
                                self.assertTrue(go_over(one, names, other, others, store))
        self.assertGreater(free, 15)

    def test_each_way_of_sharing_a_pattern(self):
        told, other = [("p", "X")], [("q", "X")]
        take = Deed("take", 0, told + [("s",)], [0], [])
        keep = Deed("keep", 0, told + [("t",)], [], [])
        put_in = Deed("put", 0, other, [], [("p", "X")])
        denies = Deed("denies", 0, other, [], [], None, [("p", "X")])
        take_too = Deed("too", 0, told, [0], [])
        for one, two, expected in (
            (take, keep, False), (keep, take, False), (keep, keep, True), (put_in, denies, False), (put_in, put_in, True), (take, put_in, False),
            (take, denies, True), (take, take_too, False), (keep, denies, True), (keep, put_in, True), (denies, denies, True),
        ):
            self.assertIs(disturb(one, two) is None, expected, (one.label, two.label))
        # Taken and put in again by one, taken by the other one.
        self.assertIsNone(disturb(Deed("d", 0, told, [0], told), keep))
        self.assertIsNotNone(disturb(Deed("d", 0, told, [0], told), take_too))

    def test_a_deed_with_itself(self):
        alone = Deed("alone", 0, [("p", "X")], [0], [])
        both = Deed("both", 0, [("p", "X"), ("p", "Y")], [0], [])
        self.assertIsNone(disturb(alone, alone))
        self.assertIsNone(disturb(alone, Deed("alone", 0, [("p", "X")], [0], [])))
        # Unlike deeds at the same match.
        self.assertEqual(disturb(alone, Deed("alone", 1, [("p", "X")], [0], [])), ([("p", "x")], ("x",), ("x",)))
        self.assertIsNotNone(disturb(both, both))
        self.assertIsNone(disturb(Deed("d", 0, [], [], [("s",)]), Deed("d", 0, [], [], [("s",)])))
        self.assertIsNone(disturb(Deed("d", 0, [("s",)], [0], []), Deed("d", 0, [("s",)], [0], [])))

    def test_ranks_do_not_count_nor_whether_a_deed_fires(self):
        for rank in (-1, 0, 7):
            still = Deed("still", rank, [("p", "X")], [0], [("p", "X")])
            self.assertIsNone(disturb(still, still))
            self.assertEqual(disturb(still, Deed("d", 0, [("p", "Z")], [0], [])), ([("p", "x")], ("x",), ("x",)))

    def test_pairs_and_names(self):
        told = [("at", "X"), ("at", "Y")]
        unlike = Deed("unlike", 0, told, [0], [], [("X", "Y")])
        store, match, another = disturb(unlike, unlike)
        self.assertTrue(len(store) in (2, 3) and match[0] != match[1] and another[0] != another[1])
        only_a = Deed("a", 0, [("at", "a")], [0], [])
        self.assertIsNone(disturb(only_a, Deed("b", 0, [("at", "X")], [0], [], [("X", "a")])))
        self.assertEqual(disturb(only_a, Deed("b", 0, [("at", "X")], [0], [])), ([("at", "a")], (), ("a",)))
        # Two matches that cannot be in one store.
        no = Deed("no", 0, [("p", "X")], [0], [], None, [("s",)])
        self.assertIsNone(disturb(no, Deed("s", 0, [("s",), ("p", "X")], [1], [])))

    def test_wrong_arguments(self):
        refuses_wrong(self, disturb, ["one", "other"], ["deed", "deed"], [GO, TIRE])

    def test_results_are_new(self):
        kept = disturb(GO, TIRE)[0][:]
        disturb(one=GO, other=TIRE)[0].clear()
        self.assertEqual(disturb(other=TIRE, one=GO)[0], kept)


if __name__ == "__main__":
    unittest.main()
