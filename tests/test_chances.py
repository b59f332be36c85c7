"""[220] to [225] Chances: worked out world by world, in whole numbers, as fractions of the standard library."""

import unittest
from fractions import Fraction
from itertools import product

from neverapart.chances import (
    answer_chances, cases, cases_chance, chance, chance_all, chance_answered, chance_given, chance_some, check_cases, critical, expected, levers,
    likeliest, spread,
)
from neverapart.errors import InvalidChances, InvalidStore, NotPlain
from neverapart.rules import Book, Question, Rule
from plainly import (
    DRY, ODD, ROUND, ROW, STEP, TOWN, TWO, WAYS, Chance, all_answers, all_subsets, all_that_follows, refused, refuses_wrong,
)

GOAL = ("way", "a", "c")
MAYBE = [(("road", "a", "b"), (1, 2)), (("road", "b", "c"), (4, 6)), (("road", "a", "c"), (1, 4))]
ODDS = [(0, 1), (1, 1), (1, 2), (2, 6), (3, 4), (0, 5), (7, 7), (999999, 1000000 - 1), (1, 999983), (5, 10)]


def drawn(many, facts=5):
    for seed in range(many):
        one = Chance(seed, names="ab", kinds=(("p", 1), ("q", 2), ("r", 1), ("s", 0)), letters="XY")
        book = one.book(one.draw.randint(0, 3), 2)
        if one.draw.random() < 0.2:
            book = book + Book([Rule("sun", ("sun",), [])])
        pool = ODDS if seed % 3 else ODDS[2:5]
        yield book, [(fact, one.draw.choice(pool)) for fact in one.store(facts)], one


def worlds(chanced):
    """All worlds, each with its chance."""
    for choice in product([True, False], repeat=len(chanced)):
        total = Fraction(1)
        for stands, (_, (part, whole)) in zip(choice, chanced):
            total *= Fraction(part, whole) if stands else 1 - Fraction(part, whole)
        yield sorted(fact for stands, (fact, _) in zip(choice, chanced) if stands), total


class Worlds:
    """What follows from all worlds, each with its chance."""

    def __init__(self, book, chanced):
        self.rows = [(world, total, set(all_that_follows(book.rules(), world))) for world, total in worlds(chanced)]

    def sum(self, holds):
        return sum((total for _, total, known in self.rows if holds(known)), Fraction(0))


def told(quotient):
    return (quotient.numerator, quotient.denominator)


class Chances(unittest.TestCase):
    def test_chances_of_facts(self):
        seen = {"none": 0, "sure": 0, "between": 0, "no known": 0}
        for book, chanced, one in drawn(150):
            all_worlds = Worlds(book, chanced)
            known = all_that_follows(book.rules(), [fact for fact, _ in chanced])
            for fact in {*known[:4], ("none",)}:
                value = told(all_worlds.sum(lambda facts: fact in facts))
                self.assertEqual([chance(book, chanced, fact), chance(fact=fact, chanced=chanced[::-1], book=book)], [value, value])
                seen["none" if value[0] == 0 else "sure" if value == (1, 1) else "between"] += 1
            for _ in range(3):
                some = one.draw.sample(known, min(len(known), one.draw.randint(0, 3))) + one.draw.choice([[], [], [("none",)]])
                every, any_one = all_worlds.sum(lambda facts: set(some) <= facts), all_worlds.sum(lambda facts: bool(set(some) & facts))
                self.assertEqual([chance_all(book, chanced, some), chance_some(book, chanced, some)], [told(every), told(any_one)])
                self.assertEqual([chance_all(facts=some[::-1], chanced=chanced[::-1], book=book), chance_some(facts=some, book=book, chanced=chanced)], [told(every), told(any_one)])
                fact = one.draw.choice(known or [("none",)])
                both = all_worlds.sum(lambda facts: {*some, fact} <= facts)
                value = told(both / every) if every else None
                seen["no known"] += value is None
                self.assertEqual([chance_given(book, chanced, fact, some), chance_given(known=some[::-1], fact=fact, chanced=chanced[::-1], book=book)], [value, value])
            value = told(sum((total * len(known) for _, total, known in all_worlds.rows), Fraction(0)))
            self.assertEqual([expected(book, chanced), expected(chanced=chanced[::-1], book=book)], [value, value])
        self.assertTrue(min(seen.values()) > 20, seen)

    def test_questions(self):
        seen, longest = {"none": 0, "some": 0, "sure": 0}, 0
        for book, chanced, one in drawn(200):
            question = one.question(2)
            all_worlds = Worlds(book, chanced)
            lists = [(total, all_answers(question, known)) for _, total, known in all_worlds.rows]
            answers = sorted({answer for _, found in lists for answer in found})
            rows = [(answer, sum(total for total, found in lists if answer in found)) for answer in answers]
            expected_rows = [(answer, told(total)) for answer, total in rows if total]
            self.assertEqual([answer_chances(book, question, chanced), answer_chances(chanced=chanced[::-1], question=question, book=book)], [expected_rows] * 2)
            value = told(sum((total for total, found in lists if found), Fraction(0)))
            self.assertEqual([chance_answered(book, question, chanced), chance_answered(chanced=chanced[::-1], question=question, book=book)], [value, value])
            many = len(all_answers(question, all_that_follows(book.rules(), [fact for fact, _ in chanced])))
            numbers = [told(sum((total for total, found in lists if len(found) == number), Fraction(0))) for number in range(many + 1)]
            self.assertEqual([spread(book, question, chanced), spread(chanced=chanced[::-1], question=question, book=book)], [numbers, numbers])
            self.assertEqual(sum(Fraction(*number) for number in numbers), 1)
            seen["none" if value[0] == 0 else "sure" if value == (1, 1) else "some"] += 1
            longest = max(longest, many)
        self.assertTrue(min(seen.values()) > 10 and longest > 1, (seen, longest))

    def test_levers_and_critical_ones(self):
        several = zero = 0
        for book, chanced, one in drawn(150):
            known = all_that_follows(book.rules(), [fact for fact, _ in chanced])
            for fact in {*known[-3:], ("none",)}:
                rows = []
                for given, _ in sorted(chanced):
                    ends = []
                    for odds in ((1, 1), (0, 1)):
                        changed = [(other, odds if other == given else own) for other, own in chanced]
                        ends.append(Worlds(book, changed).sum(lambda facts: fact in facts))
                    rows.append((given, ends[0] - ends[1]))
                    # The chance is that without the given one and its own chance times the lever.
                    self.assertEqual(Fraction(*chance(book, chanced, fact)), ends[1] + Fraction(*dict(chanced)[given]) * rows[-1][1])
                self.assertEqual([levers(book, chanced, fact), levers(fact=fact, chanced=chanced[::-1], book=book)], [[(given, told(lever)) for given, lever in rows]] * 2)
                best = [given for given, lever in rows if lever == max(other for _, other in rows)]
                self.assertEqual([critical(book, chanced, fact), critical(fact=fact, chanced=chanced[::-1], book=book)], [best, best])
                several, zero = several + (1 < len(best) < len(rows)), zero + (rows != [] and max(rows, key=lambda row: row[1])[1] == 0)
        self.assertTrue(several > 2 and zero > 10, (several, zero))

    def test_likeliest_worlds(self):
        none = some = 0
        for book, chanced, one in drawn(150):
            known = all_that_follows(book.rules(), [fact for fact, _ in chanced])
            all_worlds = Worlds(book, chanced)
            for fact in {*known[:3], ("none",)}:
                best = max([total for _, total, facts in all_worlds.rows if fact in facts], default=0)
                value = likeliest(book, chanced, fact)
                self.assertEqual(likeliest(fact=fact, chanced=chanced[::-1], book=book), value)
                if best == 0:
                    none += 1
                    self.assertIsNone(value)
                else:
                    some += 1
                    self.assertEqual([value[0], len(value), value[1]], [told(best), 2, sorted(value[1])])
                    self.assertIn((value[1], best), [(world, total) for world, total, facts in all_worlds.rows if fact in facts])
        self.assertTrue(none > 50 and some > 50, (none, some))

    def test_chanced_stores_of_no_facts(self):
        sun = Book([Rule("sun", ("sun",), [])])
        self.assertEqual([chance(sun, [], ("sun",)), chance(sun, [], ("rain",)), chance_all(sun, [], []), chance_some(sun, [], []), expected(sun, [])], [(1, 1), (0, 1), (1, 1), (0, 1), (1, 1)])
        self.assertEqual([chance_given(sun, [], ("sun",), []), chance_given(sun, [], ("rain",), [("sun",)]), chance_given(sun, [], ("sun",), [("rain",)])], [(1, 1), (0, 1), None])
        self.assertEqual([levers(sun, [], ("sun",)), critical(sun, [], ("sun",)), likeliest(sun, [], ("sun",)), likeliest(sun, [], ("rain",))], [[], [], ((1, 1), []), None])
        self.assertEqual([answer_chances(sun, Question([], []), []), chance_answered(sun, ROUND, []), spread(sun, ROUND, [])], [[((), (1, 1))], (0, 1), [(1, 1)]])
        self.assertEqual([cases(sun, [], ("sun",)), cases(sun, [], ("rain",)), cases_chance([], ("yes",)), cases_chance([], ("no",))], [("yes",), ("no",), (1, 1), (0, 1)])

    def test_big_numbers(self):
        chanced = [(("p", name), (999979 - place, 999983)) for place, name in enumerate("abcdef")] + [(("s",), (1, 999983)), (("t",), (999982, 999983))]
        book = Book([Rule("r", ("all",), [("p", name) for name in "abc"]), Rule("u", ("all",), [("s",), ("t",), ("p", "f")])])
        value = told(Worlds(book, chanced).sum(lambda facts: ("all",) in facts))
        self.assertEqual([chance(book, chanced, ("all",)), value[1] > 10 ** 30], [value, True])


class Cases(unittest.TestCase):
    def is_tree(self, chanced, value, asked=()):
        """Whether any object is as the first sentence of [225] says."""
        if not isinstance(value, tuple):
            return False
        if value in (("yes",), ("no",)):
            return True
        if len(value) != 4 or value[0] != "ask" or value[1] in asked or value[1] not in list(dict_of(chanced)):
            return False
        return all(self.is_tree(chanced, one, (*asked, value[1])) for one in value[2:])

    def ends(self, value, yes=(), no=()):
        if len(value) == 1:
            return [(value[0], yes, no)]
        return self.ends(value[2], (*yes, value[1]), no) + self.ends(value[3], yes, (*no, value[1]))

    def is_right(self, book, chanced, fact, value):
        if not self.is_tree(chanced, value):
            return False
        for word, yes, no in self.ends(value):
            facts = yes if word == "yes" else [one for one, _ in chanced if one not in no]
            if (fact in all_that_follows(book.rules(), list(facts))) != (word == "yes"):
                return False
        return True

    def sum(self, chanced, value):
        odds, total = dict_of(chanced), Fraction(0)
        for word, yes, no in self.ends(value):
            if word == "yes":
                part = Fraction(1)
                for fact in yes:
                    part *= odds[fact]
                for fact in no:
                    part *= 1 - odds[fact]
                total += part
        return told(total)

    def drawn_tree(self, one, facts, depth=4):
        if not facts or depth == 0 or one.draw.random() < 0.25:
            return (one.draw.choice(["yes", "no"]),)
        fact = one.draw.choice(facts)
        less = [other for other in facts if other != fact]
        return ("ask", fact, self.drawn_tree(one, less, depth - 1), self.drawn_tree(one, less, depth - 1))

    def whole_tree(self, book, chanced, fact, left, yes=()):
        """A tree that asks for everything, in an order of its own."""
        if not left:
            return ("yes",) if fact in all_that_follows(book.rules(), list(yes)) else ("no",)
        return ("ask", left[-1], self.whole_tree(book, chanced, fact, left[:-1], (*yes, left[-1])), self.whole_tree(book, chanced, fact, left[:-1], yes))

    def bends(self, one, value):
        """Trees with one place bent."""
        if len(value) == 1:
            return [("no",) if value[0] == "yes" else ("yes",), value[0], [value[0]], ("maybe",), (), None, value + value]
        found = [("ask", value[1], value[3], value[2]), ("ask", ("none",), *value[2:]), value[:3], value + (("yes",),), list(value), ("Ask", *value[1:])]
        found += [("ask", list(value[1]), *value[2:]), ("ask", value[1], value, value[3]), ("ask", value[1], value[2], value), ("ask", None, *value[2:])]
        found += [("ask", value[1], bent, value[3]) for bent in self.bends(one, value[2])] + [("ask", value[1], value[2], bent) for bent in self.bends(one, value[3])]
        return found

    def test_trees(self):
        deep = wrong = right = 0
        for book, chanced, one in drawn(120):
            facts = [fact for fact, _ in chanced]
            known = all_that_follows(book.rules(), facts)
            for fact in one.draw.sample(known, min(2, len(known))) + [("none",)]:
                tree = cases(book, chanced, fact)
                self.assertTrue(self.is_right(book, chanced, fact, tree))
                self.assertEqual(cases(fact=fact, chanced=chanced[::-1], book=book), tree)
                trees = [tree, self.whole_tree(book, chanced, fact, facts)]
                for value in trees:
                    self.assertIs(check_cases(book, chanced, fact, value), True)
                    self.assertEqual(cases_chance(chanced, value), chance(book, chanced, fact))
                deep = max(deep, len(str(tree)))
                bent = self.bends(one, tree)
                values = one.draw.sample(bent, min(12, len(bent))) + [self.drawn_tree(one, facts) for _ in range(8)]
                for value in values + [tree[0], [tree], (tree,)]:
                    answer = self.is_right(book, chanced, fact, value)
                    self.assertIs(check_cases(value=value, fact=fact, chanced=chanced[::-1], book=book), answer)
                    wrong, right = wrong + (not answer), right + answer
                    sum_told = self.sum(chanced, value) if self.is_tree(chanced, value) else None
                    self.assertEqual([cases_chance(chanced, value), cases_chance(value=value, chanced=chanced[::-1])], [sum_told, sum_told])
        self.assertTrue(deep > 100 and wrong > 500 and right > 50, (deep, wrong, right))

    def test_facts_asked_twice(self):
        ab, bc, ac = (fact for fact, _ in MAYBE)
        yes, no = ("yes",), ("no",)
        # On two ways.
        tree = ("ask", ac, yes, ("ask", ab, ("ask", bc, yes, no), no))
        both = ("ask", ab, ("ask", bc, yes, ("ask", ac, yes, no)), ("ask", ac, yes, no))
        self.assertEqual([check_cases(WAYS, MAYBE, GOAL, tree), check_cases(WAYS, MAYBE, GOAL, both), cases_chance(MAYBE, both)], [True, True, (1, 2)])
        # On one way.
        for twice in (("ask", ac, yes, ("ask", ab, ("ask", bc, yes, no), ("ask", ac, yes, no))), ("ask", ac, ("ask", ac, yes, no), yes)):
            self.assertEqual([check_cases(WAYS, MAYBE, GOAL, twice), cases_chance(MAYBE, twice)], [False, None])
        # Ends that are wrong, or that nothing shows yet.
        for wrong in (yes, no, ("ask", ac, yes, no), ("ask", ac, no, no), ("ask", ac, yes, ("ask", ab, ("ask", bc, yes, yes), no)), ("ask", ac, yes, ("ask", ab, yes, no))):
            self.assertIs(check_cases(WAYS, MAYBE, GOAL, wrong), False)
            self.assertIsNotNone(cases_chance(MAYBE, wrong))
        self.assertEqual([cases_chance(MAYBE, yes), cases_chance(MAYBE, no), cases_chance(MAYBE, ("ask", bc, yes, no))], [(1, 1), (0, 1), (2, 3)])

    def test_any_objects(self):
        for thing in ODD + [("yes", "no"), "yes", ["yes"], ("ask",), ("ask", ROW[0], ("yes",)), ("ask", ROW[0], ("yes",), None), ("ask", None, ("yes",), ("no",)),
                            ("ask", ("road", ["a"], "b"), ("yes",), ("no",)), (("yes",),), {"yes": 1}, (True,), ("ask", ROW[0], {}, [])]:
            self.assertIs(check_cases(WAYS, MAYBE, GOAL, thing), False)
            self.assertIsNone(cases_chance(MAYBE, thing))
        deep = ("yes",)
        for _ in range(30):
            deep = ("ask", ROW[0], deep, deep)
        self.assertEqual([check_cases(WAYS, MAYBE, GOAL, deep), cases_chance(MAYBE, deep)], [False, None])


def dict_of(chanced):
    return {fact: Fraction(*odds) for fact, odds in chanced}


class Arguments(unittest.TestCase):
    def test_wrong_arguments(self):
        three = (["book", "chanced", "fact"], ["plain book", "chances", "fact"], [WAYS, MAYBE, GOAL])
        asked = (["book", "question", "chanced"], ["plain book", "question", "chances"], [WAYS, TWO, MAYBE])
        for call in (chance, levers, critical, likeliest, cases):
            refuses_wrong(self, call, *three)
        for call in (answer_chances, chance_answered, spread):
            refuses_wrong(self, call, *asked)
        for call in (chance_all, chance_some):
            refuses_wrong(self, call, ["book", "chanced", "facts"], ["plain book", "chances", "store"], [WAYS, MAYBE, ROW])
        refuses_wrong(self, chance_given, ["book", "chanced", "fact", "known"], ["plain book", "chances", "fact", "store"], [WAYS, MAYBE, GOAL, ROW])
        refuses_wrong(self, expected, ["book", "chanced"], ["plain book", "chances"], [WAYS, MAYBE])
        refuses_wrong(self, check_cases, ["book", "chanced", "fact", "value"], ["plain book", "chances", "fact", None], [WAYS, MAYBE, GOAL, ("yes",)])
        refuses_wrong(self, cases_chance, ["chanced", "value"], ["chances", None], [MAYBE, ("yes",)])
        denied = Book([STEP, DRY])
        refused(self, NotPlain, denied, chance, denied, None, None)
        twice = MAYBE + MAYBE[:1]
        refused(self, InvalidChances, twice, chance, WAYS, twice, None)
        double = ROW + ROW
        refused(self, InvalidStore, double, chance_all, WAYS, MAYBE, double)

    def test_nothing_is_shared(self):
        chanced, some = list(MAYBE), [GOAL, ROW[0]]
        for call, more in (
            (answer_chances, [WAYS, Question(["X"], [("way", "X", "Y")]), chanced]), (spread, [WAYS, ROUND, chanced]), (levers, [WAYS, chanced, GOAL]), (critical, [WAYS, chanced, GOAL]),
        ):
            first = call(*more)
            kept = list(first)
            first.append(1)
            self.assertTrue(kept)
            self.assertEqual(call(*more), kept)
        likeliest(WAYS, chanced, GOAL)[1].append(1)
        chance_all(WAYS, chanced, some)
        self.assertEqual([chanced, some, len(likeliest(WAYS, chanced, GOAL)[1])], [MAYBE, [GOAL, ROW[0]], 2])
        self.assertEqual([len(all_subsets(TOWN)), chance(WAYS, [(fact, (1, 1)) for fact in TOWN], GOAL)], [16, (1, 1)])


if __name__ == "__main__":
    unittest.main()
