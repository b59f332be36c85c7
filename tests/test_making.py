"""[170] to [174] Makers: grown by the words of the document, and what is sure held against all small stores."""

import unittest
from itertools import product

from neverapart.errors import InvalidNumber, InvalidQuestion, InvalidRule, TooMany
from neverapart.making import (
    Maker, check_endless, check_ranks, endless, grown, maker_follows, needless_makers, ranks, sure_answers, things,
)
from neverapart.rules import Question, Rule
from plainly import (
    NO_FACTS, NO_NAMES, ODD, OWN, ROUND, WRONG, Chance, all_answers, all_subsets, but, put, refused, refuses_wrong, variables_in, without_one,
)

SON = Maker("son", [("man", "Y"), ("son", "Y", "X")], ("man", "X"))
SOME = Maker("some", [("hut", "Z")], ("man", "X"))
MAN = ("man", "a")


def drawn_maker(chance, label):
    draw = chance.draw
    word, number = draw.choice(chance.kinds)
    told = (word,) + tuple(draw.sample(["X", "Y", "Z"], number))
    terms = list(told[1:]) * 3 + ["U", "U", "V"] + chance.names[:1]
    return Maker(label, [chance.pattern(terms) for _ in range(draw.randint(1, 2))], told)


def drawn(many, kinds=(("p", 1), ("q", 2), ("r", 1), ("s", 0)), makers=3):
    for seed in range(many):
        chance = Chance(seed, names="ab", kinds=kinds)
        yield [drawn_maker(chance, label) for label in "jklm"[:chance.draw.randint(1, makers)]], chance.store(4), chance


def carried(maker):
    return [term for term in maker.told[1:] if any(term in head[1:] for head in maker.heads)]


def made(maker):
    return [term for term in variables_in(maker.heads) if term not in maker.told]


def names_of_heads(makers):
    return {term for maker in makers for head in maker.heads for term in head[1:] if term.islower()}


def all_grown(makers, store, names, most=200):
    """The facts and the things by the words of [171], things having the next of these names; None beyond `most` things."""
    facts, new, done, names = list(store), [], [], iter(names)
    while True:
        waiting = []
        for maker in makers:
            rows = {tuple(put(("w", *carried(maker)), dict(zip(maker.told[1:], fact[1:]))))[1:] for fact in facts if (fact[0], len(fact)) == (maker.told[0], len(maker.told))}
            waiting += [(maker, row) for row in sorted(rows) if (maker.label, row) not in done]
        if not waiting:
            return sorted(set(facts)), new
        for maker, row in waiting:
            done.append((maker.label, row))
            given = dict(zip(carried(maker), row))
            for term in made(maker):
                if len(new) == most:
                    return None
                given[term] = next(names)
                new.append(given[term])
            facts += [put(head, given) for head in maker.heads]


def thing_names(taken):
    letters = "abcdefghijklmnopqrstuvwxyz"
    for many in (1, 2, 3):
        for row in product(letters, repeat=many):
            if "".join(row) not in taken:
                yield "".join(row)


def is_made_good(makers, store):
    """Whether a store is made good, as [174] says."""
    names = sorted({name for fact in store for name in fact[1:]}) or ["a"]
    for maker in makers:
        for fact in store:
            if (fact[0], len(fact)) == (maker.told[0], len(maker.told)):
                given = dict(zip(maker.told[1:], fact[1:]))
                ways = ({**given, **dict(zip(made(maker), row))} for row in product(names, repeat=len(made(maker))))
                if not any(all(put(head, way) in store for head in maker.heads) for way in ways):
                    return False
    return True


class Makers(unittest.TestCase):
    def test_what_a_maker_is_made_of(self):
        heads = [("owns", "X", "Y"), ("hut", "Y"), ("sun",), ("hut", "a")]
        maker = Maker(label="own", heads=heads, told=("man", "X", "Z"))
        self.assertEqual([maker.label, maker.heads, maker.told], ["own", heads, ("man", "X", "Z")])
        maker.heads.clear()
        heads.append(("p",))
        self.assertEqual(len(maker.heads), 4)
        self.assertEqual(Maker("own", OWN.heads, OWN.told), OWN)
        for other in (Maker("o", OWN.heads, OWN.told), Maker("own", OWN.heads[:1], OWN.told), Maker("own", OWN.heads, ("man", "Z")),
                      Maker("own", OWN.heads[::-1], OWN.told), Rule("own", ("man", "X"), [OWN.told]), None, "own"):
            self.assertFalse(OWN == other)
        self.assertEqual([Maker("s", [("p",)], ("q",)).told, Maker("t", [("p", "X")], ("q", "X", "Y", "Z")).heads], [("q",), [("p", "X")]])

    def test_wrong_arguments(self):
        patterns = [thing for thing in NO_FACTS if thing != ("road", "X")]
        no_heads = but(ODD, lambda thing: False) + [("p",), [("p",), None], [["p"]], (("p", "X"),)] + [[thing] for thing in patterns]
        no_told = but(ODD + patterns, lambda thing: False) + [("p", "X", "X"), ("p", "X", "Y", "X"), ("p", "a"), ("p", "X", "a"), ["p", "X"], ("p", "x", "X")]
        for label in NO_NAMES + ODD[:3]:
            for heads in (OWN.heads, None):
                refused(self, InvalidRule, label, Maker, label, heads, ("man", "X", "X"))
                refused(self, InvalidRule, label, Maker, told=7, heads=heads, label=label)
        for heads in no_heads:
            for told in (OWN.told, ("man", "X", "X"), None):
                refused(self, InvalidRule, heads, Maker, "own", heads, told)
        for told in no_told:
            refused(self, InvalidRule, told, Maker, "own", OWN.heads, told)
            refused(self, InvalidRule, told, Maker, told=told, label="own", heads=OWN.heads)

    def test_wrong_arguments_of_functions(self):
        question = Question(["X"], [("owns", "X", "Y")])
        for call in (grown, things):
            refuses_wrong(self, call, ["makers", "store", "most"], ["makers", "store", "count"], [[OWN], [MAN], 5])
        for call in (ranks, endless):
            refuses_wrong(self, call, ["makers"], ["makers"], [[OWN]])
        for call in (check_ranks, check_endless):
            refuses_wrong(self, call, ["makers", "value"], ["makers", None], [[OWN], None])
        refuses_wrong(self, sure_answers, ["makers", "question", "store", "most"], ["makers", "question", "store", "count"], [[OWN], question, [MAN], 5])
        apart = Question(["X"], [("owns", "X", "Y")], [("X", "Y")])
        for worse in ([MAN], None):
            refused(self, InvalidQuestion, apart, sure_answers, [OWN], apart, worse, worse)
        refuses_wrong(self, maker_follows, ["makers", "maker", "most"], ["makers", "maker", "count"], [[OWN], SOME, 5])
        refuses_wrong(self, needless_makers, ["makers", "most"], ["makers", "count"], [[OWN], 5])

    def test_nothing_is_shared(self):
        makers, store = [OWN, SON], [MAN, ("hut", "c")]
        for call, more in ((ranks, [[OWN]]), (grown, [[OWN], store, 5]), (things, [[OWN], store, 5]), (needless_makers, [[OWN, SOME], 5]),
                           (sure_answers, [[OWN], Question(["X"], [("man", "X")]), store, 5])):
            first = call(*more)
            kept = dict(first) if isinstance(first, dict) else list(first)
            first.clear()
            self.assertTrue(kept)
            self.assertEqual(call(*more), kept)
        store_and_steps = endless(makers)
        store_and_steps[0].clear(), store_and_steps[1].clear()
        self.assertTrue(check_endless(makers, endless(makers)))
        self.assertEqual([makers, store], [[OWN, SON], [MAN, ("hut", "c")]])


class Grown(unittest.TestCase):
    def test_drawn_makers(self):
        ended = beyond = two = 0
        for makers, store, _ in drawn(300):
            taken = {name for fact in store for name in fact[1:]} | names_of_heads(makers)
            expected = all_grown(makers, store, thing_names(taken), 60)
            if expected is None:
                beyond += 1
                for call in (grown, things):
                    self.too_many(60, call, makers, store, 60)
                continue
            ended, two = ended + (len(expected[1]) > 2), two + any(len(name) == 2 for name in expected[1])
            many = len(expected[1])
            for most in (many, many + 1, 60):
                self.assertEqual([grown(makers, store, most), things(makers, store, most)], list(expected))
            self.assertEqual([grown(most=many, store=store[::-1], makers=makers), things(most=many, store=store[::-1], makers=makers)], list(expected))
            if many:
                self.too_many(many - 1, grown, makers, store, many - 1)
                self.too_many(many - 1, things, makers, store, many - 1)
        self.assertTrue(ended > 15 and beyond > 15, (ended, beyond))

    def too_many(self, most, call, *arguments):
        with self.assertRaises(TooMany) as caught:
            call(*arguments)
        self.assertEqual(caught.exception.most, most)

    def test_rounds_makers_and_names(self):
        # In the first round the first maker makes for b and c, then the second one; what they make comes in the next round.
        first, second = Maker("z", [("q", "X", "U")], ("p", "X")), Maker("a", [("p", "V"), ("r", "V", "W")], ("s", "Y"))
        store = [("p", "c"), ("p", "b"), ("s", "e"), ("s", "d")]
        self.assertEqual(things([first, second], store, 9), ["a", "f", "g", "h", "i"])
        self.assertEqual(grown([first, second], store, 9), sorted(store + [
            ("q", "b", "a"), ("q", "c", "f"), ("p", "g"), ("r", "g", "h"), ("q", "g", "i")]))
        # The things of one making are named in the order of the heads, not of their letters.
        self.assertEqual(grown([Maker("m", [("r", "W", "V"), ("r", "U", "W")], ("s",))], [("s",)], 3), [("r", "a", "b"), ("r", "c", "a"), ("s",)])

    def test_facts_that_give_the_same_making(self):
        maker = Maker("m", [("owner", "X", "U")], ("owns", "X", "Y"))
        store = [("owns", "p", "r"), ("owns", "p", "q"), ("owns", "q", "p")]
        self.assertEqual(things([maker], store, 2), ["a", "b"])
        # No variable in common: one making, however many facts; and none without any.
        lone = Maker("m", [("sun", "U")], ("owns", "X", "Y"))
        self.assertEqual([things([lone], store, 1), things([lone], [], 0), things([lone], [("owns", "a")], 0)], [["a"], [], []])
        # Carried names stand in the order of the told pattern.
        back = Maker("m", [("q", "Y", "X", "U")], ("p", "X", "Y"))
        self.assertEqual(grown([back], [("p", "d", "c"), ("p", "c", "e")], 2)[2:], [("q", "c", "d", "b"), ("q", "e", "c", "a")])

    def test_things_of_two_signs_and_names_that_stand_there(self):
        letters = "abcdefghijklmnopqrstuvwxyz"
        store = [("p", letters[place], letters[place + 1]) for place in range(0, 26, 2)] + [("q", "ab", "ad")]
        maker = Maker("m", [("r", "X", "Y", "U"), ("s", "ac")], ("p", "X", "Y"))
        expected = ["aa"] + ["a" + letter for letter in "efghijklmnop"]
        self.assertEqual(things([maker], store, 13), expected)
        chain = [Maker("m", [("p", "U"), ("p", "V"), ("p", "W")], ("s", "X")), Maker("n", [("t", "X", "U")], ("p", "X"))]
        self.assertEqual(things(chain, [("s", "b"), ("p", "b")], 9), ["a", "c", "d", "e", "f", "g", "h"])
        self.assertEqual(things([Maker("m", [("q", "X", "c"), ("q", "b", "U")], ("p", "X"))], [("p", "d"), ("r", "e")], 2), ["a"])
        # Words are no names that stand there.
        self.assertEqual(things([Maker("m", [("a", "U")], ("b",))], [("b",), ("c", "d")], 2), ["a"])
        many = Maker("m", [("p", "U"), ("q", "X", "U")], ("p", "X"))
        self.too_many(50, things, [many], [("p", "a")], 50)
        long = [Maker("m" + letter, [("t", "U"), ("t", "V"), ("t", "W")], ("s",)) for letter in "abcdefghij"]
        self.assertEqual(things(long, [("s",)], 30), list(letters) + ["aa", "ab", "ac", "ad"])

    def test_no_makers_and_no_facts(self):
        self.assertEqual([grown([], [MAN], 0), things([], [MAN], 0), grown([OWN], [], 0)], [[MAN], [], []])
        self.assertEqual(grown([Maker("m", [("p", "Y", "X")], ("p", "X", "Y"))], [("p", "b", "c")], 0), [("p", "b", "c"), ("p", "c", "b")])


class Ranks(unittest.TestCase):
    def links(self, makers):
        """All tuples (place, place, whether it makes, step)."""
        found = []
        for maker in makers:
            for column, term in enumerate(maker.told[1:]):
                for at, head in enumerate(maker.heads):
                    for to, other in enumerate(head[1:]):
                        if term in carried(maker) and (other == term or other in made(maker)):
                            found.append((((maker.told[0], len(maker.told) - 1), column), ((head[0], len(head) - 1), to), other != term, (maker.label, column, at, to)))
        return found

    def places(self, makers):
        patterns = [p for maker in makers for p in [maker.told, *maker.heads]]
        return {((p[0], len(p) - 1), column) for p in patterns for column in range(len(p) - 1)}

    def fits(self, makers, counts):
        return all(counts[there] >= counts[here] + makes for here, there, makes, _ in self.links(makers))

    def most_made(self, links, place, way):
        """The most that is made along any way to a place that comes nowhere twice."""
        numbers = [0]
        for here, there, makes, _ in links:
            if there == place and here not in way:
                numbers.append(makes + self.most_made(links, here, way + [here]))
        return max(numbers)

    def test_drawn_ranks(self):
        there = none = high = 0
        for makers, store, chance in drawn(400, makers=4):
            links, places = self.links(makers), self.places(makers)
            found = ranks(makers)
            around = [one for one in links if one[2] and self.leads(links, one[1], one[0])]
            self.assertEqual(found is None, around != [])
            if found is None:
                none += 1
                continue
            there += 1
            self.assertEqual(found, {place: self.most_made(links, place, [place]) for place in places})
            self.assertTrue(self.fits(makers, found))
            high = max([high, *found.values()])
            self.assertIs(check_ranks(makers, found), True)
            self.bend(makers, found, chance)
            # Makings end where there are ranks.
            self.assertIsNotNone(all_grown(makers, store, thing_names(set("ab")), 5000))
        self.assertTrue(there > 100 and none > 30 and high > 1, (there, none, high))

    def leads(self, links, here, there):
        reached = {here}
        for _ in links:
            reached |= {one[1] for one in links if one[0] in reached}
        return there in reached

    def bend(self, makers, found, chance):
        for _ in range(6):
            bent = dict(found)
            for place in bent:
                bent[place] = max(0, bent[place] + chance.draw.choice([0, 0, 0, 1, 2, -1]))
            self.assertIs(check_ranks(value=bent, makers=makers), self.fits(makers, bent))
        for place in sorted(found):
            less = {key: found[key] for key in found if key != place}
            self.assertIs(check_ranks(makers, less), False)
            for count in (-1, True, False, None, "1", (1,), []):
                self.assertIs(check_ranks(makers, {**found, place: count}), False)
        for more in (("none", 1), (("none", 1), 0), "a", None, (("p", 1), 1), True, (("p", 1), 0, 0)):
            self.assertIs(check_ranks(makers, {more: 5, **found}), False)
        # These keys are equal to places, but True and False are no numbers.
        for more in ((("p", True), 0), (("q", 2), True), (("q", 2), False)):
            self.assertIs(check_ranks(makers, {more: 5, **found}), False)

    def test_ranks_that_are_told(self):
        self.assertEqual(ranks([]), {})
        self.assertEqual(ranks([Maker("m", [("p",)], ("q",))]), {})
        self.assertEqual(ranks([Maker("m", [("p", "U")], ("q", "X"))]), {(("p", 1), 0): 0, (("q", 1), 0): 0})
        self.assertEqual(ranks([Maker("m", [("p", "U", "Y")], ("q", "X", "Y"))]), {
            (("p", 2), 0): 1, (("p", 2), 1): 0, (("q", 2), 0): 0, (("q", 2), 1): 0})
        chain = [Maker("l", [("c", "X")], ("b", "X")), Maker("m", [("b", "U"), ("d", "X")], ("a", "X")), Maker("n", [("e", "X", "U")], ("c", "X"))]
        self.assertEqual(ranks(chain), {
            **{((word, 1), 0): count for word, count in zip("abcd", (0, 1, 1, 0))}, (("e", 2), 0): 1, (("e", 2), 1): 2})
        for thing in ODD + [[((("p", 1), 0), 0)], {(("p", 1), 0): 0}]:
            self.assertIs(check_ranks([OWN], thing), False)
            self.assertIs(check_ranks([], thing), thing == {} and isinstance(thing, dict))
        self.assertIs(check_ranks([SON], {place: 9 for place in self.places([SON])}), False)

    def is_endless(self, makers, value):
        """As [173] says it, for what has the form of it."""
        store, steps = value
        by_step = {one[3]: one for one in self.links(makers)}
        if len(store) != 1 or not steps or not all(step in by_step for step in steps):
            return False
        links = [by_step[step] for step in steps]
        rows = zip(links, links[1:] + links[:1])
        return all(one[1] == other[0] for one, other in rows) and any(one[2] for one in links) and links[0][0][0] == (store[0][0], len(store[0]) - 1)

    def test_drawn_endless_makers(self):
        long = 0
        for makers, _, chance in drawn(400, makers=4):
            value = endless(makers)
            self.assertEqual(value is None, ranks(makers) is not None)
            self.assertEqual(endless(makers=makers), value)
            if value is None:
                continue
            store, steps = value
            self.assertTrue(self.is_endless(makers, value))
            self.assertIs(check_endless(makers, value), True)
            self.assertIs(check_endless(value=([(store[0][0],) + tuple("q" for _ in store[0][1:])], steps), makers=makers), True)
            # They do not end on its store, whatever names its fact has.
            for names in ("aaa", "bac"):
                self.assertIsNone(all_grown(makers, [store[0][:1] + tuple(names[:len(store[0]) - 1])], thing_names(names_of_heads(makers) | set(names)), 90))
            long = max(long, len(steps))
            self.bend_circle(makers, value, chance)
        self.assertGreater(long, 2)

    def bend_circle(self, makers, value, chance):
        store, steps = value
        links = self.links(makers)
        bents = [(store, steps * 2), (store, steps[1:] + steps[:1]), (store, steps[:-1]), (store + store, steps), ([], steps), (store, []), (store, steps + steps[:1])]
        bents += [(store, steps[:at] + [chance.draw.choice(links)[3]] + steps[at + 1:]) for at in range(len(steps))]
        bents += [([store[0] + ("a",)], steps), ([("none",)], steps), (store, [one[3] for one in links])]
        for bent in bents:
            self.assertIs(check_endless(makers, bent), self.is_endless(makers, bent), bent)
        label, column, head, to = steps[0]
        for step in ((label, column, head), (label, column, head, to, 0), [label, column, head, to], ("none", column, head, to), (label, -1, head, to),
                     (label, column, 7, to), (label, column, head, None), (None,) * 4, ((label,), column, head, to), "step", None):
            self.assertIs(check_endless(makers, (store, [step] + steps[1:])), False)
        for number in (True, False):
            bent = [(label, number if column == number else column, number if head == number else head, number if to == number else to)]
            if any(isinstance(one, bool) for one in bent[0]):
                self.assertIs(check_endless(makers, (store, bent + steps[1:])), False)
        for thing in ((store, tuple(steps)), [store, steps], (store, steps, []), (tuple(store), steps), (store[0], steps), ([list(store[0])], steps), (steps, store)):
            self.assertIs(check_endless(makers, thing), False)

    def test_rings_through_several_makers(self):
        ring = [Maker("j", [("b", "X", "U")], ("a", "X")), Maker("k", [("c", "Y")], ("b", "X", "Y")), Maker("l", [("a", "X")], ("c", "X"))]
        value = endless(ring)
        self.assertEqual([len(value[1]), check_endless(ring, value), ranks(ring)], [3, True, None])
        self.assertTrue(check_endless(ring, ([("a", "q")], [("j", 0, 0, 1), ("k", 1, 0, 0), ("l", 0, 0, 0)])))
        self.assertTrue(check_endless(ring, ([("c", "q")], [("l", 0, 0, 0), ("j", 0, 0, 1), ("k", 1, 0, 0)])))
        self.assertFalse(check_endless(ring, ([("b", "q")], [("l", 0, 0, 0), ("j", 0, 0, 1), ("k", 1, 0, 0)])))
        # What is only carried goes round without an end, but makes nothing.
        carry = [Maker("j", [("p", "Y", "X")], ("p", "X", "Y"))]
        self.assertEqual([endless(carry), check_endless(carry, ([("p", "a", "a")], [("j", 0, 0, 1), ("j", 1, 0, 0)]))], [None, False])
        # A made variable hangs on the places of carried variables alone.
        lone = [Maker("j", [("p", "U")], ("p", "X"))]
        self.assertEqual([endless(lone), check_endless(lone, ([("p", "a")], [("j", 0, 0, 0)]))], [None, False])
        for thing in ODD:
            self.assertIs(check_endless(ring, thing), False)


class Sure(unittest.TestCase):
    def good_stores(self, makers, store, kinds, names):
        """All stores of these names that have all facts of a store and are made good."""
        every = [(word, *row) for word, number in kinds for row in product(names, repeat=number)]
        for more in all_subsets([fact for fact in every if fact not in store]):
            whole = sorted(store + more)
            if is_made_good(makers, whole):
                yield whole

    def test_sure_answers(self):
        kinds = (("p", 1), ("q", 2), ("s", 0))
        found = bare = 0
        for makers, store, chance in drawn(300, kinds):
            chance.pairs = False
            question = chance.question(2)
            # Things that are named otherwise make no difference.
            expected = all_grown(makers, store, ("z" * k for k in range(1, 999)), 20)
            if expected is None:
                with self.assertRaises(TooMany) as caught:
                    sure_answers(makers, question, store, 20)
                self.assertEqual(caught.exception.most, 20)
                continue
            facts, new = expected
            answers = [row for row in all_answers(question, facts) if not set(row) & set(new)]
            self.assertEqual([sure_answers(makers, question, store, 20), sure_answers(most=20, store=store[::-1], question=question, makers=makers)], [answers] * 2)
            self.assertTrue(is_made_good(makers, facts))
            found, bare = found + len(answers), bare + (not answers and all_answers(question, facts) != [])
            if chance.draw.random() < 0.25:
                for whole in self.good_stores(makers, store, kinds, "ab"):
                    self.assertLessEqual(set(answers), set(all_answers(question, whole)))
        self.assertTrue(found > 200 and bare > 3, (found, bare))

    def test_things_are_no_names_of_the_question(self):
        # The first thing would be called a.
        maker = Maker("m", [("hut", "U")], ("man", "X"))
        self.assertEqual(sure_answers([maker], Question([], [("hut", "a")]), [("man", "b")], 1), [])
        self.assertEqual(sure_answers([maker], Question(["X"], [("man", "X"), ("hut", "a")]), [("man", "b")], 1), [])
        self.assertEqual(sure_answers([maker], Question([], [("hut", "X")]), [("man", "b")], 1), [()])
        self.assertEqual(sure_answers([maker], Question(["X"], [("hut", "X")]), [("man", "b")], 1), [])
        self.assertEqual(sure_answers([maker], Question(["X"], [("hut", "X")]), [("man", "b"), ("hut", "c")], 1), [("c",)])
        self.assertEqual(sure_answers([], ROUND, [("way", "a", "a")], 0), [("a",)])
        self.assertRaises(TooMany, sure_answers, [maker], Question([], []), [("man", "b")], 0)

    def test_makers_that_follow(self):
        kinds = (("p", 1), ("q", 2), ("s", 0))
        yes = no = beyond = 0
        for makers, _, chance in drawn(300, kinds):
            maker = drawn_maker(chance, "own")
            barred = names_of_heads(makers + [maker])
            frozen = dict(zip(maker.told[1:], ["v", "w"]))
            expected = all_grown(makers, [put(maker.told, frozen)], thing_names(barred | {"v", "w"}), 20)
            if expected is None:
                beyond += 1
                with self.assertRaises(TooMany) as caught:
                    maker_follows(makers, maker, 20)
                self.assertEqual(caught.exception.most, 20)
                continue
            answer = maker_follows(maker=maker, makers=makers, most=20)
            facts, new = expected
            self.assertEqual(answer, maker_follows(makers, maker, len(new)))
            if new:
                self.assertRaises(TooMany, maker_follows, makers, maker, len(new) - 1)
            if not answer:
                # A store that is made good by the makers and not by the maker.
                self.assertTrue(is_made_good(makers, facts) and not is_made_good([maker], facts))
            elif chance.draw.random() < 0.5:
                for whole in self.good_stores(makers, [], kinds, "ab"):
                    self.assertTrue(is_made_good([maker], whole))
            yes, no = yes + answer, no + (not answer)
        self.assertTrue(yes > 40 and no > 40 and beyond > 5, (yes, no, beyond))

    def test_makers_that_follow_by_hand(self):
        self.assertTrue(maker_follows([OWN], SOME, 1) and not maker_follows([SOME], OWN, 1))
        # A thing is not the name that the head has, though it would be called so.
        self.assertFalse(maker_follows([Maker("m", [("hut", "U")], ("man", "X"))], Maker("n", [("hut", "a")], ("man", "X")), 1))
        self.assertFalse(maker_follows([Maker("m", [("hut", "U")], ("man", "X"))], Maker("n", [("hut", "X")], ("man", "X")), 1))
        self.assertTrue(maker_follows([Maker("m", [("hut", "a")], ("man", "X"))], Maker("n", [("hut", "U")], ("man", "X")), 0))
        self.assertTrue(maker_follows([], Maker("n", [("man", "U", "X")], ("man", "Y", "X")), 0))
        self.assertFalse(maker_follows([], Maker("n", [("man", "U", "U")], ("man", "Y", "X")), 0))
        self.assertTrue(maker_follows([OWN], OWN, 1))
        # The names of the fact that is tried stand in no head.
        for name in ("a", "x", "xx"):
            self.assertFalse(maker_follows([Maker("m", [("q", name)], ("p", "X"))], Maker("n", [("q", "X")], ("p", "X")), 0))
            self.assertFalse(maker_follows([Maker("m", [("q", "X")], ("p", "X"))], Maker("n", [("q", name)], ("p", "X")), 0))
        # Too many things come, though the first one already shows that it follows.
        with self.assertRaises(TooMany) as caught:
            maker_follows([SON], Maker("n", [("son", "U", "X")], ("man", "X")), 7)
        self.assertEqual(caught.exception.most, 7)
        self.assertFalse(maker_follows([SON], Maker("n", [("man", "X")], ("hut", "X")), 0))

    def test_needless_makers(self):
        found = beyond = 0
        for makers, _, _ in drawn(150, (("p", 1), ("q", 2), ("s", 0)), 4):
            expected = []
            try:
                for place, others in enumerate(without_one(makers)):
                    if maker_follows(others, makers[place], 15):
                        expected.append(place)
            except TooMany:
                beyond += 1
                with self.assertRaises(TooMany) as caught:
                    needless_makers(makers, 15)
                self.assertEqual(caught.exception.most, 15)
                continue
            self.assertEqual([needless_makers(makers, 15), needless_makers(most=15, makers=makers)], [expected] * 2)
            found += len(expected)
        self.assertTrue(found > 10 and beyond > 5, (found, beyond))
        self.assertEqual([needless_makers([], 0), needless_makers([SOME, OWN], 1), needless_makers([SON], 0)], [[], [0], []])
        refused_most = (SON, Maker("son", [("p",)], ("q",)))
        self.assertRaises(InvalidNumber, needless_makers, list(refused_most[:1]), True)
        self.assertTrue(WRONG["maker"])


if __name__ == "__main__":
    unittest.main()
