"""[104] Weights and mixes: held against all bodies of deeds, and all choices of what is there already."""

import copy
import unittest

from neverapart.deeds import Deed
from neverapart.weights import mix, weights
from plainly import GO, TIRE, Chance, all_subsets, all_ways_to_name, apart, names_in_terms, put, refuses_wrong, variables_in
from test_firing import plain_after


def kinds_of(deeds):
    patterns = [deed.told[place] for deed in deeds for place in deed.takes] + [p for deed in deeds for p in deed.puts]
    return sorted({(p[0], len(p) - 1) for p in patterns})


def changes_of(deed, kinds):
    """All tuples of how many facts of each kind there are more behind a firing of a deed, in all stores."""
    parts = [p[1:] for p in deed.told + deed.puts + deed.denied] + deed.pairs
    found = set()
    for names in all_ways_to_name(variables_in(deed.told), names_in_terms(*parts)):
        told = {put(p, names) for p in deed.told}
        open_facts = sorted({put(p, names) for p in deed.puts} - told)
        for more in all_subsets(open_facts):
            store = sorted(told | set(more))
            after = plain_after(deed, names, store)
            if apart(deed.pairs, names) and not any(put(p, names) in store for p in deed.denied) and after != store:
                found.add(tuple(sum((f[0], len(f) - 1) == one for f in after) - sum((f[0], len(f) - 1) == one for f in store) for one in kinds))
    return found


def is_weights(deeds, value):
    kinds = kinds_of(deeds)
    if not isinstance(value, dict) or sorted(value) != kinds or not all(type(value[one]) is int for one in kinds):
        return False
    rows = [row for deed in deeds for row in changes_of(deed, kinds)]
    return all(sum(value[one] * number for one, number in zip(kinds, row)) < 0 for row in rows)


def is_mix(deeds, value):
    kinds = kinds_of(deeds)
    if not isinstance(value, list) or not value or not all(isinstance(part, tuple) and len(part) == 3 for part in value):
        return False
    by_label = {deed.label: changes_of(deed, kinds) for deed in deeds}
    for times, label, change in value:
        if type(times) is not int or times < 1 or sorted(change) != kinds or tuple(change[one] for one in kinds) not in by_label[label]:
            return False
    return all(sum(times * change[one] for times, _, change in value) == 0 for one in kinds)


def drawn(many=250):
    for seed in range(many):
        kinds = (("p", 1), ("p", 2), ("s", 0), ("u", 1), ("v", 1), ("w", 0), ("t", 1)) if seed % 2 else (("p", 1), ("u", 1), ("p", 0))
        chance = Chance(seed, names="ab", kinds=kinds, letters="XYZ" if seed % 5 == 0 else "XY")
        chance.names = chance.names[:1] if seed % 3 else chance.names
        yield [chance.deed(label, 3) for label in "jklm"[:chance.draw.randint(1, 4)]]


class Weights(unittest.TestCase):
    def check(self, deeds, has_weights=None):
        found, mixed = weights(deeds), mix(deeds)
        self.assertNotEqual(found is None, mixed is None, deeds)
        self.assertTrue(mixed is None or is_mix(deeds, mixed), (mixed, deeds))
        self.assertTrue(found is None or is_weights(deeds, found), (found, deeds))
        self.assertIn(has_weights, (None, found is not None))
        self.assertEqual([weights(deeds), mix(deeds)], [found, mixed])
        return found, mixed

    def test_drawn_deeds(self):
        seen, longest = {True: 0, False: 0}, 0
        for deeds in drawn():
            found, mixed = self.check(deeds)
            seen[found is None] += 1
            longest = max(longest, len(mixed or []))
            if found is not None and len(deeds) > 1:
                self.check(deeds[1:], True)
        self.assertTrue(min(seen.values()) > 25 and longest > 2, (seen, longest))

    def test_chains_of_exchanges(self):
        # Each deed gives two of the next kind for one: the weights have to double from kind to kind.
        words = "jklmnop"
        chain = [
            Deed("d" + one, 0, [(one, "X")], [0], [(other, "X"), (other, "X", "X")]) for one, other in zip(words, words[1:])
        ]
        found, _ = self.check(chain[:4], True)
        self.assertTrue(found[("j", 1)] > found[("k", 1)] + found[("k", 2)])
        back = Deed("back", 0, [("n", "X")], [0], [("j", "X")])
        _, mixed = self.check(chain[:4] + [back], False)
        self.assertEqual({label for _, label, _ in mixed}, {"dj", "dk", "dl", "dm", "back"})
        # Two of one kind for one of the other, and one back: less and less.
        self.check([Deed("a", 0, [("p", "X"), ("p", "Y")], [0, 1], [("q", "X")], [("X", "Y")]), Deed("b", 0, [("q", "X")], [0], [("p", "X")])], True)
        self.check([Deed("a", 0, [("p", "X"), ("p", "Y")], [0, 1], [("q", "X")]), Deed("b", 0, [("q", "X")], [0], [("p", "X")])], False)
        # Three times the one and twice the other make nothing.
        _, mixed = self.check([
            Deed("a", 0, [("p", "X"), ("p", "Y")], [0, 1], [("q", "X"), ("q", "Y"), ("q", "a")], [("X", "Y"), ("X", "a"), ("Y", "a")]),
            Deed("b", 0, [("q", "X"), ("q", "Y"), ("q", "Z")], [0, 1, 2], [("p", "X"), ("p", "Y")], [("X", "Y"), ("Y", "Z"), ("X", "Z")]),
        ], False)

    def test_taken_and_put_in_again(self):
        self.check([Deed("d", 0, [("p", "X"), ("s",)], [0, 1], [("p", "X")])], True)
        self.check([Deed("d", 0, [("p", "X")], [0], [("p", "X")])], True)
        self.check([Deed("d", 0, [("p", "X"), ("q", "X", "Y")], [0], [("p", "Y")])], False)
        self.check([Deed("d", 0, [("p", "X"), ("q", "X", "Y")], [0, 1], [("p", "Y")])], True)

    def test_puts_that_may_be_there_already(self):
        # Weights have to be below 0 for what is only put in, whether one or both puts are new.
        found, _ = self.check([Deed("d", 0, [], [], [("s",), ("p", "a")])], True)
        self.assertTrue(found[("s", 0)] < 0 and found[("p", 1)] < 0)
        # The put may be there: then one fact less, with no put for it.
        found, _ = self.check([Deed("d", 0, [("p", "X")], [0], [("q", "X")])], True)
        self.assertTrue(found[("p", 1)] > max(found[("q", 1)], 0))
        # A denied put is always new, a told one never.
        self.check([
            Deed("d", 0, [("p", "X")], [0], [("q", "X")], None, [("q", "X")]), Deed("e", 0, [("q", "X"), ("p", "X")], [0], [("p", "X")]),
            Deed("f", 0, [("s",)], [], [("p", "a")], None, [("p", "a")]),
        ], False)
        self.check([Deed("d", 0, [("p", "X")], [], [("p", "X")])], True)

    def test_deeds_that_take_and_put_nothing(self):
        for deeds in ([], [Deed("d", 0, [("p", "X")], [], [])], [Deed("d", 0, [], [], []), Deed("e", 1, [("s",)], [], [], None, [("s",)])]):
            self.assertEqual([weights(deeds), mix(deeds)], [{}, None])
        never = Deed("never", 0, [("p", "X")], [0], [("q", "X")], None, [("p", "X")])
        found, _ = self.check([never], True)
        self.assertEqual(sorted(found), [("p", 1), ("q", 1)])

    def test_kinds_with_one_word_and_unlike_numbers_of_terms(self):
        found, _ = self.check([Deed("d", 0, [("p", "X", "Y")], [0], [("p", "X"), ("p",)])], True)
        self.assertEqual(sorted(found), [("p", 0), ("p", 1), ("p", 2)])
        _, mixed = self.check([GO], False)
        self.assertEqual(mixed, [(1, "go", {("at", 1): 0})])

    def test_ranks_do_not_count(self):
        for rank in (-3, 0, 3):
            self.check([Deed("d", rank, [("p", "X")], [0], [("q", "X")]), Deed("e", 1, [("q", "X")], [0], [("p", "X")])], False)
            self.check([Deed("d", rank, [("p", "X")], [0], [("q", "X")]), TIRE], True)

    def test_wrong_arguments(self):
        for call in (weights, mix):
            refuses_wrong(self, call, ["deeds"], ["deeds"], [[GO]])

    def test_results_are_new(self):
        deeds = [TIRE]
        weights(deeds).clear()
        first = mix([GO])
        kept = copy.deepcopy(first)
        first[0][2].clear()
        first.clear()
        self.assertEqual([mix(deeds=[GO]), len(weights(deeds=deeds)), deeds], [kept, 2, [TIRE]])


if __name__ == "__main__":
    unittest.main()
