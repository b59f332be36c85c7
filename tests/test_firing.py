"""[101], [102] Firing: held against all matches, and against all runs gone along one by one."""

import copy
import unittest

from neverapart.deeds import Deed
from neverapart.errors import NotFiring, TooMany
from neverapart.firing import can_fire, ends, fire, parted, ring, run
from plainly import GO, ODD, TIRE, TOWN, Chance, all_matches, put, refuses_wrong, variables_in

ROUND = TOWN + [("at", "a")]


def plain_after(deed, names, store):
    taken = {put(deed.told[place], names) for place in deed.takes}
    return sorted((set(store) - taken) | {put(p, names) for p in deed.puts})


def plain_firings(deeds, store):
    """A dictionary from the tuples (label, match) of all firings of the greatest rank to the stores behind them."""
    found = []
    for deed in deeds:
        for names in all_matches(deed.told, deed.pairs, store, deed.denied):
            after = plain_after(deed, names, store)
            if after != sorted(store):
                found.append((deed.rank, (deed.label, tuple(names[term] for term in variables_in(deed.told))), after))
    top = max((rank for rank, _, _ in found), default=0)
    return {firing: after for rank, firing, after in found if rank == top}


def plain_graph(deeds, store, limit=60):
    """All stores to which runs come, and the firings in them; None if there are more than the limit."""
    graph, waiting = {}, [sorted(store)]
    while waiting:
        here = waiting.pop()
        if tuple(here) not in graph:
            graph[tuple(here)] = plain_firings(deeds, here)
            waiting.extend(graph[tuple(here)].values())
        if len(graph) > limit:
            return None
    return graph


def led_to(deeds, store, firings):
    """The stores along a row of firings, from the first to the last one; each one has to be one."""
    stores = [sorted(store)]
    for firing in firings:
        stores.append(plain_firings(deeds, stores[-1])[firing])
    return stores


def is_endless(graph):
    left = dict(graph)
    while True:
        done = [here for here in left if not any(tuple(after) in left for after in left[here].values())]
        if not done:
            return bool(left)
        for here in done:
            del left[here]


def drawn(many=400):
    for seed in range(many):
        kinds = (("p", 1), ("q", 2), ("s", 0), ("u", 1)) if seed % 2 else (("p", 1), ("u", 1), ("v", 1), ("s", 0))
        chance = Chance(seed, names="ab" if seed % 3 else "abc", kinds=kinds, letters="XY")
        deeds = [chance.deed(label) for label in "jkl"[:chance.draw.randint(1, 3)]]
        if seed % 4:
            told = [chance.pattern(["X"])]
            deeds = [Deed("move", 0, told, [0], [chance.pattern(variables_in(told) or ["a"])])] + deeds
        yield deeds, chance.store(6), chance


class Firing(unittest.TestCase):
    def test_drawn_firings(self):
        seen = 0
        for deeds, store, _ in drawn():
            expected = plain_firings(deeds, store)
            self.assertEqual(can_fire(deeds, store), sorted(expected))
            self.assertEqual(can_fire(deeds[::-1], store[::-1]), sorted(expected))
            seen += len(expected) > 1
            for firing in expected:
                self.assertEqual(fire(deeds, store, *firing), expected[firing])
        self.assertGreater(seen, 20)

    def test_only_the_greatest_rank_of_those_that_fire(self):
        low, high = Deed("low", -5, [("p", "X")], [0], []), Deed("high", -4, [("q", "X")], [0], [])
        still = Deed("still", 9, [("p", "X")], [0], [("p", "X")])
        self.assertEqual(can_fire([low, high, still], [("p", "a"), ("q", "b"), ("q", "a")]), [("high", ("a",)), ("high", ("b",))])
        self.assertEqual(can_fire([low, high, still], [("p", "b"), ("p", "a")]), [("low", ("a",)), ("low", ("b",))])
        self.assertEqual(can_fire([still, low], [("p", "a")]), [("low", ("a",))])
        twin = Deed("a", -5, [("p", "X")], [], [("q", "X")])
        self.assertEqual(can_fire([low, twin], [("p", "b"), ("p", "a")]), [("a", ("a",)), ("a", ("b",)), ("low", ("a",)), ("low", ("b",))])
        self.assertEqual([can_fire([], TOWN), can_fire([low], [])], [[], []])

    def test_what_is_taken_and_put(self):
        again = Deed("again", 0, [("p", "X"), ("s",)], [0, 1], [("p", "X"), ("u",)])
        self.assertEqual(fire([again], [("s",), ("p", "a"), ("p", "b")], "again", ("a",)), [("p", "a"), ("p", "b"), ("u",)])
        there = Deed("there", 0, [("p", "X")], [], [("q", "X")])
        self.assertEqual(can_fire([there], [("p", "a"), ("q", "a"), ("p", "b")]), [("there", ("b",))])
        twice = Deed("twice", 0, [("p", "X"), ("p", "Y")], [0], [("p", "Y")])
        self.assertEqual(fire([twice], [("p", "a"), ("p", "b")], "twice", ("a", "b")), [("p", "b")])
        self.assertEqual(can_fire([twice], [("p", "a"), ("p", "b")]), [("twice", ("a", "b")), ("twice", ("b", "a"))])
        always = Deed("always", 0, [], [], [("s",)])
        self.assertEqual([can_fire([always], []), fire([always], [], "always", ()), can_fire([always], [("s",)])], [[("always", ())], [("s",)], []])
        no = Deed("no", 0, [("p", "X")], [0], [("q", "X")], [("X", "a")], [("q", "X")])
        self.assertEqual(can_fire([no], [("p", "a"), ("p", "b"), ("p", "c"), ("q", "c")]), [("no", ("b",))])

    def test_what_is_no_firing(self):
        deeds, store = [GO, TIRE], ROUND
        for label, match in [(one, other) for one in ODD + ["go"] for other in ODD + [("a", "c"), ["a", "b"], ("a",), ("a", "b", "c"), "ab"]] + [
            ("tire", ("c",)), ("tire", ("a", "b")), (["go"], ("a", "b")), (GO, ("a", "b")),
        ]:
            with self.assertRaises(NotFiring) as caught:
                fire(deeds, store, label, match)
            value = caught.exception.value
            self.assertIsInstance(value, tuple)
            self.assertEqual(len(value), 2)
            self.assertIs(value[0], label)
            self.assertIs(value[1], match)
        # What fires, but not of the greatest rank.
        with self.assertRaises(NotFiring):
            fire(deeds, TOWN + [("at", "c")], "go", ("c", "a"))
        self.assertEqual(fire(deeds, TOWN + [("at", "c")], "tire", ("c",)), sorted(TOWN + [("home", "c")]))

    def test_runs(self):
        longest = 0
        for deeds, store, _ in drawn():
            for many in (0, 1, 2, 30):
                here, firings = sorted(store), []
                while len(firings) < many and plain_firings(deeds, here):
                    first = min(plain_firings(deeds, here))
                    here = plain_firings(deeds, here)[first]
                    firings.append(first)
                self.assertEqual(run(deeds, store, many), (firings, here))
                longest = max(longest, len(firings))
        self.assertEqual(longest, 30)
        self.assertEqual(run([GO], ROUND, 0), ([], sorted(ROUND)))
        self.assertEqual(run([GO], ROUND, 300)[0], [("go", ("a", "b")), ("go", ("b", "c")), ("go", ("c", "a"))] * 100)


class Runs(unittest.TestCase):
    def test_drawn_ends_partings_and_rings(self):
        seen = {"parted": 0, "ring": 0, "ended": 0, "at once": 0}
        for deeds, store, chance in drawn():
            graph = plain_graph(deeds, store)
            if graph is None:
                continue
            stores = sorted(list(here) for here in graph if not graph[here])
            most = len(graph) + chance.draw.choice([0, 0, 3])
            self.assertEqual(ends(deeds, store, most), stores)
            self.assertEqual(ends(deeds, store[::-1], len(graph)), stores)
            two = parted(deeds, store, most)
            self.assertEqual(two is None, len(stores) < 2)
            if two is not None:
                last = [led_to(deeds, store, firings)[-1] for firings in two]
                self.assertTrue(last[0] != last[1] and last[0] in stores and last[1] in stores)
                self.assertIsInstance(two, tuple)
                seen["parted"] += 1
            around = ring(deeds, store, most)
            self.assertEqual(around is not None, is_endless(graph))
            if around is not None:
                self.assertEqual([type(around), len(around), type(around[0]), type(around[1])], [tuple, 2, list, list])
                there = led_to(deeds, store, around[0])
                back = led_to(deeds, there[-1], around[1])
                self.assertTrue(around[1])
                self.assertEqual(back[-1], there[-1])
                way = [tuple(here) for here in there + back[1:-1]]
                self.assertEqual(len(set(way)), len(way))
                seen["ring"] += 1
            seen["ended"] += around is None and len(graph) > 3
            seen["at once"] += len(graph) == 1
        self.assertTrue(min(seen.values()) > 15, seen)

    def test_one_store_too_many(self):
        many = 0
        for deeds, store, _ in drawn(80):
            graph = plain_graph(deeds, store)
            for call in (ends, parted, ring):
                if graph is not None and len(graph) > 1:
                    many += 1
                    for most in (len(graph) - 1, 1):
                        with self.assertRaises(TooMany) as caught:
                            call(deeds, store, most)
                        self.assertIs(caught.exception.most, most)
                        with self.assertRaises(TooMany):
                            call(most=most, store=store, deeds=deeds)
                    call(deeds, store, len(graph))
        self.assertGreater(many, 60)

    def test_too_many_comes_ahead_of_a_ring_that_was_found(self):
        # The ring stands at the very beginning, the many stores behind it.
        to = Deed("to", 0, [("here",)], [0], [("there",)])
        fro = Deed("fro", 0, [("there",)], [0], [("here",)])
        flip = Deed("flip", 0, [("off", "X")], [0], [("on", "X")])
        store = [("here",)] + [("off", name) for name in "abc"]
        self.assertEqual(len(ring([to, fro], store, 2)[1]), 2)
        for call in (ends, parted, ring):
            self.assertRaises(TooMany, call, [to, fro, flip], store, 15)
            call([to, fro, flip], store, 16)
        self.assertEqual([ends([to, fro, flip], store, 16), parted([to, fro, flip], store, 16)], [[], None])

    def test_where_runs_come_together_part_and_end_at_once(self):
        flip = Deed("flip", 0, [("off", "X")], [0], [("on", "X")])
        store = [("off", "a"), ("off", "b")]
        self.assertEqual([ends([flip], store, 4), parted([flip], store, 4), ring([flip], store, 4)], [[[("on", "a"), ("on", "b")]], None, None])
        one = Deed("one", 0, [("coin",)], [0], [("tea",)])
        other = Deed("other", 0, [("coin",)], [0], [("milk",)])
        self.assertEqual(ends([one, other], [("coin",)], 3), [[("milk",)], [("tea",)]])
        self.assertEqual(sorted(parted([one, other], [("coin",)], 3)), [[("one", ())], [("other", ())]])
        self.assertEqual([ends([one], [("milk",)], 1), parted([one], [("milk",)], 1), ring([one], [("milk",)], 1)], [[[("milk",)]], None, None])
        self.assertEqual([ends([], [], 1), parted([], [], 1), ring([], [], 1)], [[[]], None, None])
        self.assertEqual(ring([GO], ROUND, 3)[0], [])
        self.assertEqual(len(ring([GO], TOWN + [("road", "d", "a"), ("at", "d")], 4)[0]), 1)


class Arguments(unittest.TestCase):
    def test_wrong_arguments(self):
        refuses_wrong(self, can_fire, ["deeds", "store"], ["deeds", "store"], [[GO, TIRE], ROUND])
        refuses_wrong(self, fire, ["deeds", "store", "label", "match"], ["deeds", "store", None, None], [[GO], ROUND, "go", ("a", "b")])
        refuses_wrong(self, run, ["deeds", "store", "many"], ["deeds", "store", "count"], [[GO, TIRE], ROUND, 3])
        for call in (ends, parted, ring):
            refuses_wrong(self, call, ["deeds", "store", "most"], ["deeds", "store", "count of at least 1"], [[GO, TIRE], ROUND, 9])

    def test_nothing_that_is_passed_is_changed_and_results_are_new(self):
        deeds, store = [TIRE, GO], ROUND[::-1]
        first = [
            can_fire(deeds=deeds, store=store), fire(match=("a", "b"), label="go", store=store, deeds=deeds), *run(many=9, store=store, deeds=deeds),
            ends(deeds, store, 9)[0], ends(deeds, store, 9), *ring([GO], store, 9),
        ]
        kept = copy.deepcopy(first)
        for thing in first:
            thing.clear()
        again = [
            can_fire(deeds, store), fire(deeds, store, "go", ("a", "b")), *run(deeds, store, 9), ends(deeds, store, 9)[0], ends(deeds, store, 9),
            *ring([GO], store, 9),
        ]
        self.assertEqual([again, deeds, store], [kept, [TIRE, GO], ROUND[::-1]])


if __name__ == "__main__":
    unittest.main()
