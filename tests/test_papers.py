"""[50], [51] Papers: each one looked at line by line, heights and sizes worked out in another way."""

import copy
import random
import unittest

from neverapart.papers import check_paper, count_papers, least_height, least_size, smallest, why
from neverapart.rules import Book, Rule
from plainly import FAR, ODD, ROW, STEP, TOWN, WAYS, Chance, all_matches, all_rounds, all_steps, put, refuses_wrong

MANY = 10 ** 30


def paper_is_right(book, store, fact, paper):
    """Line by line, as [50] says."""
    if paper[0] == "given":
        return paper == ("given", fact) and fact in store
    word, label, stated, papers = paper
    rule = book.rule(label)
    facts = [part[1] if part[0] == "given" else part[2] for part in papers]
    right = [
        names for names in all_matches(rule.told, rule.pairs, facts + [("zzz", name) for name in fact[1:]])
        if [put(p, names) for p in rule.told] == facts and put(rule.head, names) == fact]
    return (word, stated) == ("by", fact) and len(right) == 1 and all(
        paper_is_right(book, store, part_fact, part) for part_fact, part in zip(facts, papers))


def height(paper):
    return 0 if paper[0] == "given" else 1 + max([0] + [height(part) for part in paper[3]])


def size(paper):
    return 0 if paper[0] == "given" else 1 + sum(size(part) for part in paper[3])


def plain_sizes(steps, store):
    """The least sizes: made less until nothing gets less."""
    sizes = {fact: 0 for fact in store}
    turned = True
    while turned:
        turned = False
        for _, told, head in steps:
            if all(fact in sizes for fact in told):
                new = 1 + sum(sizes[fact] for fact in told)
                if new < sizes.get(head, new + 1):
                    sizes[head], turned = new, True
    return sizes


def plain_numbers(steps, store, facts):
    """How many papers up to some height each fact has: they still become more behind as many heights as facts exactly if endless."""
    numbers = {fact: 0 for fact in facts}
    kept = []
    for _ in range(2 * len(facts) + 2):
        fresh = {fact: int(fact in store) for fact in facts}
        for _, told, head in steps:
            product = 1
            for fact in told:
                product *= numbers[fact]
            fresh[head] = min(MANY, fresh[head] + product)
        kept.append(fresh)
        numbers = fresh
    middle = kept[len(facts)]
    return {fact: numbers[fact] if numbers[fact] == middle[fact] < MANY else None for fact in facts}


def drawn(many=150):
    for seed in range(many):
        if seed % 2:
            chance = Chance(seed, names="ab" if seed % 3 else "abc", kinds=(("p", 1), ("q", 2), ("s", 0), ("t", 0), ("u", 1)))
            yield chance.book(5), chance.store(chance.draw.randint(0, 6))
        else:
            yield layered(random.Random(seed)), [("a",), ("b",)]


def layered(draw):
    """A book of words each of which is led to from some of the last ones ahead of it, and now and then from a later one."""
    rules = []
    for at, word in enumerate("cdefghi"):
        ahead = "abcdefghi"[max(0, at - 1):at + 2]
        for _ in range(draw.randint(1, 2)):
            told = [(draw.choice(ahead),) for _ in range(draw.randint(1, 4))]
            rules.append(Rule("r" + "abcdefghijklmnop"[len(rules)], (word,), told))
    if draw.random() < 0.2:
        rules.append(Rule("back", (draw.choice("bcde"),), [(draw.choice("fghi"),)]))
    return Book(rules)


class Papers(unittest.TestCase):
    def test_drawn_books(self):
        seen = {"unlike": 0, "endless": 0, "several": 0, "high": 0}
        for book, store in drawn():
            lists = all_rounds(book.rules(), store)
            heights = {fact: at for at, facts in enumerate(lists) for fact in facts}
            steps = all_steps(book.rules(), list(heights))
            sizes = plain_sizes(steps, store)
            numbers = plain_numbers(steps, store, list(heights))
            for fact in heights:
                low, small = why(book, store, fact), smallest(book, store, fact)
                for paper in (low, small):
                    self.assertTrue(paper_is_right(book, store, fact, paper))
                    self.assertIs(check_paper(book, store, fact, paper), True)
                self.assertEqual([least_height(book, store, fact), height(low)], [heights[fact]] * 2)
                self.assertEqual([least_size(book, store, fact), size(small)], [sizes[fact]] * 2)
                self.assertEqual(count_papers(book, store, fact), numbers[fact])
                seen["unlike"] += size(low) > size(small)
                seen["endless"] += numbers[fact] is None
                seen["several"] += (numbers[fact] or 0) > 1
                seen["high"] += heights[fact] > 2
        self.assertTrue(all(seen[key] > 3 for key in seen), seen)

    def test_facts_that_do_not_follow(self):
        for book, store in list(drawn(30)) + [(Book([]), []), (WAYS, [])]:
            fact = ("v", "a")
            self.assertEqual([call(book, store, fact) for call in (why, smallest, least_height, least_size)], [None] * 4)
            self.assertEqual(count_papers(book, store, fact), 0)
            for value in (None, ("given", fact), ("by", "j", fact, [])):
                self.assertIs(check_paper(book, store, fact, value), False)

    def test_a_fact_whose_lowest_paper_is_not_its_smallest_one(self):
        book = Book([
            Rule("wide", ("goal",), [("a",), ("b",), ("c",)]), Rule("a", ("a",), [("start",)]), Rule("b", ("b",), [("start",)]),
            Rule("c", ("c",), [("start",)]), Rule("deep", ("d",), [("a",)]), Rule("end", ("goal",), [("d",)])])
        store, goal = [("start",)], ("goal",)
        self.assertEqual([least_height(book, store, goal), least_size(book, store, goal)], [2, 3])
        self.assertEqual([size(why(book, store, goal)), height(smallest(book, store, goal))], [4, 3])
        self.assertEqual(count_papers(book, store, goal), 2)

    def test_facts_that_are_given_and_also_led_to(self):
        store = ROW + [("way", "a", "b")]
        fact = ("way", "a", "b")
        self.assertEqual([why(WAYS, store, fact), smallest(WAYS, store, fact)], [("given", fact)] * 2)
        self.assertEqual([least_height(WAYS, store, fact), least_size(WAYS, store, fact)], [0, 0])
        self.assertEqual([count_papers(WAYS, store, fact), count_papers(WAYS, store, ("way", "a", "c"))], [2, 2])
        for value in (("given", fact), ("by", "step", fact, [("given", ROW[0])])):
            self.assertIs(check_paper(WAYS, store, fact, value), True)

    def test_rules_without_told_patterns(self):
        book = Book([Rule("r", ("rain",), []), Rule("s", ("rain",), [])])
        self.assertEqual(why(book, [], ("rain",)), ("by", "r", ("rain",), []))
        self.assertEqual([least_height(book, [], ("rain",)), least_size(book, [], ("rain",))], [1, 1])
        self.assertEqual([count_papers(book, [], ("rain",)), count_papers(book, [("rain",)], ("rain",))], [2, 3])
        self.assertIs(check_paper(book, [], ("rain",), ("by", "s", ("rain",), [])), True)

    def test_two_rules_with_the_same_head_and_told_patterns(self):
        book = Book([STEP, Rule("twin", STEP.head, STEP.told), FAR])
        self.assertEqual(count_papers(book, ROW, ("way", "a", "b")), 2)
        self.assertEqual(count_papers(book, ROW, ("way", "a", "c")), 4)

    def test_a_pattern_told_twice_counts_twice(self):
        book = Book([STEP, Rule("two", ("goal",), [("way", "X", "Y"), ("way", "X", "Y")])])
        self.assertEqual(least_size(book, ROW, ("goal",)), 3)
        self.assertEqual(count_papers(book, ROW, ("goal",)), 2)
        twin = Book([STEP, Rule("twin", STEP.head, STEP.told), Rule("two", ("goal",), [("way", "X", "Y"), ("way", "X", "Y")])])
        self.assertEqual(count_papers(twin, ROW[:1], ("goal",)), 4)
        mixed = ("by", "two", ("goal",), [("by", label, ("way", "a", "b"), [("given", ROW[0])]) for label in ("step", "twin")])
        self.assertIs(check_paper(twin, ROW, ("goal",), mixed), True)

    def test_endlessly_many_though_the_ring_is_far_behind(self):
        book = Book([Rule("on", ("p",), [("q",)]), Rule("back", ("q",), [("p",)]), Rule("out", ("goal",), [("q",)])])
        self.assertIsNone(count_papers(book, [("q",)], ("goal",)))
        self.assertEqual(count_papers(book, [("goal",)], ("goal",)), 1)
        self.assertEqual(count_papers(Book([Rule("self", ("p",), [("p",)])]), [("p",)], ("q",)), 0)
        self.assertIsNone(count_papers(Book([Rule("self", ("p",), [("p",)])]), [("p",)], ("p",)))

    def test_few_objects_for_very_many_lines(self):
        words = ["h" + "abcdefghijklm"[at] for at in range(13)]
        book = Book([Rule("r" + new, (new,), [(old,)] * 4) for old, new in zip(words, words[1:])])
        for call in (why, smallest):
            paper = call(book, [(words[0],)], (words[-1],))
            self.assertIs(check_paper(book, [(words[0],)], (words[-1],), paper), True)
            self.assertIs(check_paper(book, [(words[0],)], (words[-1],), copy.deepcopy(paper)), True)
            self.assertIs(check_paper(book, [], (words[-1],), paper), False)
        self.assertEqual(least_size(book, [(words[0],)], (words[-1],)), sum(4 ** at for at in range(12)))

    def test_bent_papers_and_any_objects(self):
        fact = ("way", "a", "c")
        one, other = [("by", "step", ("way", *edge[1:]), [("given", edge)]) for edge in ROW]
        right = ("by", "far", fact, [one, other])
        self.assertIs(check_paper(WAYS, ROW, fact, right), True)
        bent = [
            list(right), ("by", "far", fact, (one, other)), ("by", "far", fact, [other, one]), ("by", "far", fact, [one]),
            ("by", "far", fact, [one, other, other]), ("by", "far", fact, []), ("by", "step", fact, [one, other]), right + (None,),
            ("by", "step", fact, [("given", ("road", "a", "c"))]), ("by", "none", fact, [one, other]), ("given", fact), right[:3],
            ("by", "far", ("way", "a", "b"), [one, other]), ("by", "far", list(fact), [one, other]), ("BY", "far", fact, [one, other]),
            ("by", "far", fact, [list(one), other]), ("by", "far", fact, [one, ("given", ("way", "b", "c"))]), ("given", "far", fact, [one, other]),
            ("by", "far", fact, [one, ("by", "step", ("way", "b", "c"), [("given", ROW[0])])]), ("by", ["far"], fact, [one, other]),
            ("by", "far", fact, [one, ("by", "step", ("way", "b", "c"), [["given", ROW[1]]])]), ("by", {}, fact, [one, other]),
            ("by", "far", fact, [one, None]), ("by", "far", fact, None), ("given",), ("given", fact, fact), ("by", STEP, fact, [one, other]),
            ("by", "far", fact, [("given", ["road"]), other]), ("by", "far", fact, [("by", "step", {}, []), other]), ("by", "far", fact, [("given", None), other]),
            ("by", "far", fact, [("given", ["way", "a", "b"]), other]), ("by", "far", fact, [("given", ("way", "a", "B")), other]),
            ("by", fact), ("given", ROW[0]), right[:3] + ([one, right],), ("by", "far", ("way", "a", "X"), [one, other]),
        ]
        for value in bent + ODD:
            self.assertIs(check_paper(WAYS, ROW, fact, value), False, value)
        self.assertIs(check_paper(WAYS, ROW[:1], fact, right), False)
        self.assertIs(check_paper(Book([FAR]), ROW, fact, right), False)
        self.assertIs(check_paper(WAYS, ROW, ("way", "a", "b"), right), False)

    def test_pairs_have_to_be_unlike_in_papers(self):
        book = Book([Rule("r", ("p", "X"), [("q", "X", "Y")], [("X", "Y"), ("Y", "c")])])
        store = [("q", "a", "a"), ("q", "a", "b"), ("q", "a", "c")]
        values = [("by", "r", ("p", "a"), [("given", fact)]) for fact in store]
        self.assertEqual([check_paper(book, store, ("p", "a"), value) for value in values], [False, True, False])
        self.assertEqual(count_papers(book, store, ("p", "a")), 1)

    def test_one_variable_is_one_name_in_papers(self):
        book = Book([Rule("r", ("p", "a"), [("q", "X"), ("s", "X", "b")])])
        store = [("q", "a"), ("q", "c"), ("s", "a", "b"), ("s", "c", "d")]
        values = [("by", "r", ("p", "a"), [("given", one), ("given", two)]) for one in store[:2] for two in store[2:]]
        self.assertEqual([check_paper(book, store, ("p", "a"), value) for value in values], [True, False, False, False])

    def test_the_first_fact_may_be_wrong_alone(self):
        book = Book([Rule("r", ("p", "a"), [("q", "c"), ("s", "X")])])
        store = [("q", "b"), ("q", "c"), ("s", "a")]
        values = [("by", "r", ("p", "a"), [("given", one), ("given", ("s", "a"))]) for one in store]
        self.assertEqual([check_paper(book, store, ("p", "a"), value) for value in values], [False, True, False])

    def test_equal_calls_return_equal_papers(self):
        for book, store in list(drawn(30)) + [(WAYS, TOWN)]:
            for fact in all_rounds(book.rules(), store)[-1]:
                for call in (why, smallest):
                    self.assertEqual(call(book, store, fact), call(fact=fact, store=list(reversed(store)), book=book))

    def test_wrong_arguments(self):
        names, kinds = ["book", "store", "fact", "value"], ["plain book", "store", "fact", None]
        for call in (why, smallest, least_height, least_size, count_papers):
            refuses_wrong(self, call, names[:3], kinds[:3], [WAYS, ROW, ROW[0]])
        refuses_wrong(self, check_paper, names, kinds, [WAYS, ROW, ROW[0], None])

    def test_nothing_that_is_passed_is_changed_and_results_are_new(self):
        store = list(reversed(ROW))
        for call in (why, smallest):
            paper = call(WAYS, store, ("way", "a", "c"))
            kept = copy.deepcopy(paper)
            self.assertIs(check_paper(WAYS, store, ("way", "a", "c"), paper), True)
            self.assertEqual(paper, kept)
            paper[3].clear()
            self.assertEqual(call(WAYS, store, ("way", "a", "c")), kept)
        self.assertEqual(store, list(reversed(ROW)))


if __name__ == "__main__":
    unittest.main()
