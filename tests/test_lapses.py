"""[210] to [214] Facts that last for a while: what stands and follows at each moment, worked out moment by moment."""

import unittest

from neverapart.errors import InvalidBook, InvalidDates, NotPlain
from neverapart.lapses import (
    answer_terms, cheapest, closed_at, cuts_short, failing, how_long, last_moments, lasting, prolongings, stands_at, timetable,
)
from neverapart.lots import cuts, supports
from neverapart.papers import check_paper
from neverapart.rules import Book, Question, Rule
from plainly import (
    DRY, ROW, STEP, TOWN, TWO, WAYS, WRONG, Chance, all_answers, all_subsets, all_that_follows, refused, refuses_wrong,
)

AC = ("way", "a", "c")
LEASED = [(("road", "a", "b"), 5), (("road", "b", "c"), None), (("road", "a", "c"), 2)]


def drawn(many, facts=6):
    for seed in range(many):
        chance = Chance(seed, names="ab", kinds=(("p", 1), ("q", 2), ("r", 1), ("s", 0)), letters="XY")
        book = chance.book(chance.draw.randint(0, 3), 2)
        if chance.draw.random() < 0.2:
            book = book + Book([Rule("sun", ("sun",), [])])
        moments = chance.draw.choice([[0, 1, 2], [-7, 10 ** 12, -(10 ** 9), None], [None], [3, None, None], [-2, -1, 5, 9]])
        yield book, [(fact, chance.draw.choice(moments)) for fact in chance.store(facts)], chance


def standing(dated, moment):
    return sorted(fact for fact, last in dated if last is None or last >= moment)


def moments_of(dated):
    """Moments at which all that can happen shows: at each last one, ahead of it and behind it."""
    return sorted({last + more for _, last in dated if last is not None for more in (-1, 0, 1)} | {0})


def last_of(holds, dated):
    """None if something never holds, ("always",) or ("until", moment) otherwise: by trying all moments."""
    at = [moment for moment in moments_of(dated) if holds(moment)]
    if not at:
        return None
    return ("always",) if at[-1] == moments_of(dated)[-1] else ("until", at[-1])


def longer(last, end):
    return end is not None and (last is None or last > end)


class Moments(unittest.TestCase):
    def test_what_stands_and_follows_at_each_moment(self):
        for book, dated, _ in drawn(60):
            for moment in moments_of(dated):
                store = standing(dated, moment)
                self.assertEqual([stands_at(dated, moment), stands_at(moment=moment, dated=dated[::-1])], [store, store])
                follows = all_that_follows(book.rules(), store)
                self.assertEqual([closed_at(book, dated, moment), closed_at(moment=moment, dated=dated[::-1], book=book)], [follows, follows])
        self.assertEqual([stands_at(LEASED, 5), stands_at(LEASED, -10 ** 30), stands_at([], 0), stands_at([(("p",), -3)], -2)], [ROW, sorted(f for f, _ in LEASED), [], []])

    def test_how_long_and_last_moments(self):
        seen = {"never": 0, "always": 0, "until": 0, "from nothing": 0}
        for book, dated, chance in drawn(150):
            everything = all_that_follows(book.rules(), [fact for fact, _ in dated])
            expected = []
            for fact in sorted({*everything, chance.pattern("ab"), ("none",)}):
                found = last_of(lambda moment: fact in all_that_follows(book.rules(), standing(dated, moment)), dated) or ("never",)
                self.assertEqual([how_long(book, dated, fact), how_long(fact=fact, dated=dated[::-1], book=book)], [found, found])
                self.assertEqual(found == ("never",), fact not in everything)
                seen[found[0]] += 1
                seen["from nothing"] += fact in all_that_follows(book.rules(), [])
                if found != ("never",):
                    expected.append((fact, None if found == ("always",) else found[1]))
            self.assertEqual([last_moments(book, dated), last_moments(dated=dated[::-1], book=book)], [expected, expected])
            # It is a dated store itself, in which what follows is what stands.
            self.assertEqual(last_moments(book, expected), expected)
            for moment in moments_of(dated):
                self.assertEqual(stands_at(expected, moment), closed_at(book, dated, moment))
            ends = sorted({last for _, last in expected if last is not None})
            table = [(end, [fact for fact, last in expected if last == end]) for end in ends]
            self.assertEqual([timetable(book, dated), timetable(dated=dated[::-1], book=book)], [table, table])
        self.assertTrue(min(seen.values()) > 20, seen)

    def test_the_greatest_least_of_supports_and_the_least_greatest_of_cuts(self):
        many = 0
        for book, dated, _ in drawn(60, 4):
            ends = {("fact", fact): last for fact, last in dated}
            facts = [fact for fact, _ in dated]
            if len(facts) + len(book) > 7:
                continue
            for fact, last in last_moments(book, dated):
                key = lambda one: (one is None, one or 0)
                lasts = [sorted([ends.get(item) for item in lot], key=key) for lot in supports(book, facts, fact)]
                self.assertEqual(max([lot[0] if lot else None for lot in lasts], key=key), last)
                lasts = [sorted([ends.get(item) for item in lot], key=key) for lot in cuts(book, facts, fact)]
                if lasts:
                    self.assertEqual(min([lot[-1] for lot in lasts], key=key), last)
                many += 1
        self.assertGreater(many, 60)

    def test_answer_terms(self):
        never = longest = 0
        for book, dated, chance in drawn(200):
            question = chance.question(2)
            expected = []
            for answer in all_answers(question, all_that_follows(book.rules(), [fact for fact, _ in dated])):
                found = last_of(lambda moment: answer in all_answers(question, all_that_follows(book.rules(), standing(dated, moment))), dated)
                expected.append((answer, None if found == ("always",) else found[1]))
            self.assertEqual([answer_terms(book, question, dated), answer_terms(dated=dated[::-1], question=question, book=book)], [expected, expected])
            never, longest = never + (expected == []), max(longest, len(expected))
        self.assertTrue(never > 20 and longest > 1, (never, longest))
        self.assertEqual(answer_terms(Book([]), Question([], []), []), [((), None)])
        # In the order of the answers, not of the moments.
        some = [(("p", "c"), 7), (("p", "b"), None), (("p", "a"), 3)]
        self.assertEqual(answer_terms(Book([]), Question(["X"], [("p", "X")]), some), [(("a",), 3), (("b",), None), (("c",), 7)])
        self.assertEqual(last_moments(Book([]), some), some[::-1])
        self.assertEqual(answer_terms(Book([]), Question([], [("p",)]), [(("p",), -4)]), [((), -4)])

    def test_papers_that_last_and_lists_that_fail(self):
        seen = {"never": 0, "always": 0, "until": 0}
        for book, dated, chance in drawn(150):
            rules = book.rules()
            facts = [fact for fact, _ in dated]
            for fact in sorted({*all_that_follows(rules, facts), ("none",)}):
                way = how_long(book, dated, fact)
                end = way[1] if way[0] == "until" else None
                seen[way[0]] += 1
                paper, failed = lasting(book, dated, fact), failing(book, dated, fact)
                self.assertEqual([lasting(fact=fact, dated=dated[::-1], book=book) is None, failing(fact=fact, dated=dated, book=book)], [paper is None, failed])
                if way == ("never",):
                    self.assertEqual([paper, failed], [None, []])
                    continue
                self.assertTrue(check_paper(book, [one for one, last in dated if last is None or longer(last, end) or last == end], fact, paper))
                if way == ("always",):
                    self.assertIsNone(failed)
                    continue
                self.assertEqual([failed, [one for one, last in dated if one in failed and longer(last, end)]], [sorted(failed), []])
                left = [one for one in facts if one not in failed]
                self.assertNotIn(fact, all_that_follows(rules, left))
                self.assertTrue(all(one in facts and fact in all_that_follows(rules, left + [one]) for one in failed))
        self.assertTrue(min(seen.values()) > 50, seen)

    def test_by_hand(self):
        self.assertEqual(how_long(WAYS, LEASED, AC), ("until", 5))
        self.assertEqual([lasting(WAYS, LEASED, ("way", "c", "a")), failing(WAYS, LEASED, ("way", "c", "a")), failing(WAYS, LEASED, ("way", "b", "c"))], [None, [], None])
        self.assertEqual(lasting(WAYS, LEASED, AC)[1], "far")
        self.assertEqual(timetable(WAYS, [(("road", "a", "b"), None)]), [])
        self.assertEqual([last_moments(WAYS, []), how_long(WAYS, [], AC), timetable(WAYS, [])], [[], ("never",), []])
        # A fact that stands for a while, and follows for longer.
        self.assertEqual(how_long(WAYS, LEASED + [(AC, 3)], AC), ("until", 5))
        self.assertEqual(how_long(WAYS, LEASED + [(AC, 8)], AC), ("until", 8))
        self.assertEqual(how_long(WAYS, LEASED + [(AC, None)], AC), ("always",))


class Lists(unittest.TestCase):
    def test_prolongings_and_the_cheapest(self):
        seen = {"none": 0, "anyhow": 0, "one": 0, "many": 0}
        for book, dated, chance in drawn(200):
            rules = book.rules()
            ends = dict(dated)
            fact = chance.draw.choice(all_that_follows(rules, [fact for fact, _ in dated]) + [("none",)])
            for moment in {chance.draw.choice(moments_of(dated)), moments_of(dated)[-1]}:
                store = standing(dated, moment)
                more = sorted(one for one in ends if one not in store)
                fits = [some for some in all_subsets(more) if fact in all_that_follows(rules, store + some)]
                least = sorted(some for some in fits if not any(set(less) < set(some) for less in fits))
                self.assertEqual([prolongings(book, dated, fact, moment), prolongings(moment=moment, fact=fact, dated=dated[::-1], book=book)], [least, least])
                value = cheapest(book, dated, fact, moment)
                self.assertEqual(value, cheapest(moment=moment, fact=fact, dated=dated[::-1], book=book))
                if not least:
                    self.assertIsNone(value)
                else:
                    sums = [sum(moment - ends[one] for one in some) for some in least]
                    self.assertTrue(isinstance(value, tuple) and len(value) == 2 and value[1] in least)
                    self.assertEqual([value[0], sums[least.index(value[1])]], [min(sums), min(sums)])
                seen["none" if not least else "anyhow" if least == [[]] else "one" if len(least) == 1 else "many"] += 1
        self.assertTrue(min(seen.values()) > 5, seen)

    def test_cuts_short(self):
        seen = {"gone": 0, "ever": 0, "one": 0, "many": 0}
        for book, dated, chance in drawn(200):
            rules = book.rules()
            fact = chance.draw.choice(all_that_follows(rules, [fact for fact, _ in dated]) or [("none",)])
            for moment in {chance.draw.choice(moments_of(dated)), moments_of(dated)[0]}:
                store = standing(dated, moment)
                out = [some for some in all_subsets(store) if fact not in all_that_follows(rules, [one for one in store if one not in some])]
                least = sorted(some for some in out if not any(set(less) < set(some) for less in out))
                self.assertEqual([cuts_short(book, dated, fact, moment), cuts_short(moment=moment, fact=fact, dated=dated[::-1], book=book)], [least, least])
                seen["gone" if least == [[]] else "ever" if not least else "one" if len(least) == 1 else "many"] += 1
        self.assertTrue(min(seen.values()) > 5, seen)

    def test_by_hand(self):
        self.assertEqual([prolongings(WAYS, LEASED, AC, 4), cheapest(WAYS, LEASED, AC, 4), cheapest(WAYS, LEASED, ("way", "c", "a"), 4)], [[[]], (0, []), None])
        # Two facts together are cheaper than one that is long gone.
        dated = [(("road", "a", "b"), 5), (("road", "b", "c"), 6), (("road", "a", "c"), -9)]
        self.assertEqual([prolongings(WAYS, dated, AC, 7), cheapest(WAYS, dated, AC, 7)], [[[("road", "a", "b"), ("road", "b", "c")], [("road", "a", "c")]], (3, ROW)])
        self.assertEqual([cheapest(WAYS, dated, AC, -10), cheapest(WAYS, dated, AC, 6), cuts_short(WAYS, dated, AC, 7)], [(0, []), (1, ROW[:1]), [[]]])
        sun = Book([Rule("sun", ("sun",), [])])
        self.assertEqual([cuts_short(sun, LEASED, ("sun",), 0), cuts_short(sun, LEASED, ("rain",), 0), prolongings(sun, [], ("rain",), 0)], [[], [[]], []])


class Arguments(unittest.TestCase):
    def test_wrong_arguments(self):
        for call, names, kinds, right in (
            (stands_at, ["dated", "moment"], ["dates", "moment"], [LEASED, 0]),
            (closed_at, ["book", "dated", "moment"], ["plain book", "dates", "moment"], [WAYS, LEASED, 0]),
            (how_long, ["book", "dated", "fact"], ["plain book", "dates", "fact"], [WAYS, LEASED, AC]),
            (last_moments, ["book", "dated"], ["plain book", "dates"], [WAYS, LEASED]),
            (timetable, ["book", "dated"], ["plain book", "dates"], [WAYS, LEASED]),
            (answer_terms, ["book", "question", "dated"], ["plain book", "question", "dates"], [WAYS, TWO, LEASED]),
            (lasting, ["book", "dated", "fact"], ["plain book", "dates", "fact"], [WAYS, LEASED, AC]),
            (failing, ["book", "dated", "fact"], ["plain book", "dates", "fact"], [WAYS, LEASED, AC]),
            *[(one, ["book", "dated", "fact", "moment"], ["plain book", "dates", "fact", "moment"], [WAYS, LEASED, AC, 0]) for one in (prolongings, cheapest, cuts_short)],
        ):
            refuses_wrong(self, call, names, kinds, right)
        denied = Book([STEP, DRY])
        refused(self, NotPlain, denied, how_long, denied, None, None)
        refused(self, InvalidBook, None, how_long, None, None, None)
        twice = LEASED + [(LEASED[0][0], 7)]
        refused(self, InvalidDates, twice, how_long, WAYS, twice, None)

    def test_nothing_is_shared(self):
        dated = list(LEASED)
        for call, more in (
            (stands_at, [dated, 0]), (closed_at, [WAYS, dated, 0]), (last_moments, [WAYS, dated]), (failing, [WAYS, dated, AC]),
            (answer_terms, [WAYS, Question(["X"], [("way", "X", "Y")]), dated]), (prolongings, [WAYS, dated, AC, 9]), (cuts_short, [WAYS, dated, AC, 0]),
        ):
            first = call(*more)
            kept = list(first)
            first.append(1)
            self.assertTrue(kept)
            self.assertEqual(call(*more), kept)
        timetable(WAYS, dated)[0][1].append(1)
        cheapest(WAYS, dated, AC, 9)[1].append(1)
        lasting(WAYS, dated, AC)[3].append(1)
        prolongings(WAYS, dated, AC, 9)[0].append(1)
        self.assertEqual([dated, timetable(WAYS, dated)[0], len(cheapest(WAYS, dated, AC, 9)[1]), len(lasting(WAYS, dated, AC)[3])], [LEASED, (2, [("road", "a", "c")]), 1, 2])
        self.assertEqual(stands_at([(fact, None) for fact in TOWN], 3), sorted(TOWN))


if __name__ == "__main__":
    unittest.main()
