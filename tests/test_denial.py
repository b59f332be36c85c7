"""[90] to [93] Denial: layerings found by trying all of them, rings by going along all rows of kinds."""

import copy
import unittest
from itertools import permutations, product

from neverapart.closing import closed
from neverapart.denial import account, check_account, check_layering, layering, meaning, meaning_by, stands_on
from neverapart.errors import InvalidLayers, NotLayered
from neverapart.rules import Book, Rule
from plainly import (
    DRY, FAR, LONG, ODD, ROW, STEP, WAYS, WRONG, Chance, all_matches, all_that_follows, but, put, refused, refuses_wrong,
)

LOST = Rule("lost", ("lost", "X", "Y"), [("hut", "X"), ("road", "Y", "Z")], None, [("way", "X", "Y")])
WHOLE = WAYS + Book([LOST])
ODD_RING = Book([
    Rule("r", ("p",), [("u",)], None, [("q",)]), Rule("s", ("q",), [("p",)]), Rule("t", ("v",), [], None, [("v",)]),
])
HUTS = ROW + [("hut", "b")]


def kind(pattern):
    return (pattern[0], len(pattern) - 1)


def kinds_in(book):
    return sorted({kind(p) for r in book.rules() for p in [r.head] + r.told + r.denied})


def plain_levels(book):
    """All ways to give kinds the numbers of lists, as dictionaries."""
    kinds = kinds_in(book)
    for row in product(range(len(kinds)), repeat=len(kinds)):
        level = dict(zip(kinds, row))
        if all(
            all(level[kind(r.head)] >= level[kind(p)] for p in r.told) and all(level[kind(r.head)] > level[kind(p)] for p in r.denied)
            for r in book.rules()
        ):
            yield level


def plain_layerings(book):
    """All layerings, each list ascending."""
    found = []
    for level in plain_levels(book):
        lists = [[one for one in sorted(level) if level[one] == number] for number in range(max(level.values(), default=-1) + 1)]
        if all(lists):
            found.append(lists)
    return found


def plain_layering(book):
    """Each kind in as early a list as in any."""
    levels = list(plain_levels(book))
    if not levels:
        return None
    least = {one: min(level[one] for level in levels) for one in kinds_in(book)}
    return [[one for one in sorted(least) if least[one] == number] for number in range(max(least.values(), default=-1) + 1)]


def plain_rings(book):
    """All rows of different kinds that hang on one another in a ring, at least once by denial."""
    told = {(kind(r.head), kind(p)) for r in book.rules() for p in r.told}
    denied = {(kind(r.head), kind(p)) for r in book.rules() for p in r.denied}
    found = []
    for many in range(1, len(kinds_in(book)) + 1):
        for row in permutations(kinds_in(book), many):
            steps = set(zip(row, row[1:] + row[:1]))
            if steps <= told | denied and steps & denied:
                found.append(list(row))
    return found


def plain_meaning(book, store, lists):
    there = set(store)
    for kinds in lists:
        ahead, before = set(there), None
        while before != there:
            before = set(there)
            for rule in book.rules():
                if kind(rule.head) in kinds:
                    for names in all_matches(rule.told, rule.pairs, before):
                        if not any(put(p, names) in ahead for p in rule.denied):
                            there.add(put(rule.head, names))
    return sorted(there)


def plain_check(book, store, lines):
    """As [92] says, for lines of the right form."""
    facts = [fact for _, fact, _ in lines]
    if len(set(facts)) < len(facts) or not set(store) <= set(facts):
        return False
    for at, (label, fact, sources) in enumerate(lines):
        if label is None:
            if fact not in store or sources != []:
                return False
            continue
        if label not in book.labels() or not all(0 <= place < at for place in sources):
            return False
        rule = book.rule(label)
        told = [facts[place] for place in sources]
        if not any(
            [put(p, names) for p in rule.told] == told and put(rule.head, names) == fact
            for names in all_matches(rule.told, rule.pairs, facts, rule.denied)
        ):
            return False
    heads = {put(r.head, names) for r in book.rules() for names in all_matches(r.told, r.pairs, facts, r.denied)}
    return heads <= set(facts)


def drawn(many=150):
    kinds = (("p", 1), ("q", 2), ("s", 0), ("u", 1), ("p", 0))
    for seed in range(many):
        chance = Chance(seed, names="ab", kinds=kinds if seed % 3 else kinds[:3], letters="XY")
        chance.draw.shuffle(chance.names)
        rules = [chance.denying_rule(label) for label in "jklm"[:chance.draw.randint(1, 4)]]
        yield Book(rules), chance.store(5), chance


def drawn_rings(many=150):
    """Books of words without terms, each rule with one condition."""
    for seed in range(many):
        chance = Chance(seed)
        rules = []
        for label in "jklmno":
            condition = [(chance.draw.choice("defgh"),)]
            told, denied = (condition, []) if chance.draw.random() < 0.7 else ([], condition)
            rules.append(Rule(label, (chance.draw.choice("defgh"),), told, None, denied))
        yield Book(rules), [], chance


class Layerings(unittest.TestCase):
    def test_drawn_layerings_and_rings(self):
        seen, lengths = {True: 0, False: 0}, set()
        for book, store, _ in list(drawn()) + list(drawn_rings()):
            expected = plain_layering(book)
            seen[expected is None] += 1
            if expected is None:
                rings = plain_rings(book)
                for call in (lambda: layering(book), lambda: meaning(book, store), lambda: account(book, store)):
                    with self.assertRaises(NotLayered) as caught:
                        call()
                    self.assertIn(caught.exception.ring, rings)
                    self.assertEqual(len(caught.exception.ring), len(rings[0]))
                lengths.add(len(rings[0]))
            else:
                self.assertEqual(layering(book), expected)
                self.assertEqual(plain_rings(book), [])
        self.assertTrue(min(seen.values()) > 30, seen)
        self.assertLessEqual({1, 2, 3, 4}, lengths)

    def test_the_ring_goes_through_a_denial_and_is_as_short_as_any(self):
        # The two kinds that hang on one another without denial are no ring.
        rules = [
            Rule("a", ("p",), [("q",)]), Rule("b", ("q",), [("p",)]), Rule("c", ("q",), [], None, [("u",)]),
            Rule("d", ("u",), [("v",)]), Rule("e", ("v",), [("q",)]),
        ]
        with self.assertRaises(NotLayered) as caught:
            layering(Book(rules))
        ring = caught.exception.ring
        place = ring.index(("q", 0))
        self.assertEqual(ring[place:] + ring[:place], [("q", 0), ("u", 0), ("v", 0)])
        with self.assertRaises(NotLayered) as caught:
            layering(ODD_RING)
        self.assertEqual(caught.exception.ring, [("v", 0)])
        self.assertEqual(layering(Book(rules[:2])), [[("p", 0), ("q", 0)]])

    def test_layerings_of_small_books(self):
        self.assertEqual([layering(Book([])), layering(WAYS)], [[], [[("road", 2), ("way", 2)]]])
        self.assertEqual(layering(Book([DRY])), [[("hut", 1), ("rain", 0)], [("dry", 1)]])
        both = Book([Rule("r", ("p", "X"), [("p", "X", "Y")], None, [("p",)])])
        self.assertEqual(layering(both), [[("p", 0), ("p", 2)], [("p", 1)]])

    def test_check_layering_of_all_lists_of_kinds(self):
        right = wrong = 0
        for book, _, chance in drawn(60):
            kinds = kinds_in(book)
            if len(kinds) < 5:
                expected = plain_layerings(book)
                for row in product(range(len(kinds)), repeat=len(kinds)):
                    lists = [[one for one, number in zip(kinds, row) if number == at] for at in range(max(row, default=-1) + 1)]
                    for part in lists:
                        chance.draw.shuffle(part)
                    result = check_layering(book, lists)
                    self.assertIs(result, all(lists) and [sorted(part) for part in lists] in expected)
                    right, wrong = right + result, wrong + (not result)
        self.assertTrue(right > 50 and wrong > 50, (right, wrong))

    def test_check_layering_of_bent_values_and_of_any_objects(self):
        low, high = [("hut", 1), ("rain", 0)], [("dry", 1)]
        right = [low, high]
        book = Book([DRY])
        self.assertTrue(check_layering(book, right) and check_layering(book, [low[::-1], high]))
        bent = [
            (low, high), [tuple(low), high], [low], [high], [low, high, []], [[], low, high], [low, [], high], [low + low[:1], high],
            [low, high, high], [low, high + low[:1]], [low + high], [high, low], [low, high + [("sun", 0)]], [low, [["dry", 1]]],
            [[("hut", True), ("rain", 0)], high], [[("hut", 1), ("rain", False)], high], [low, [("dry", 2)]], [low, [("dry",)]],
            [low, [("dry", 1, 1)]], [low, ["dry"]], [low, [None]], [low, [("dry", "1")]], [low, [(1, "dry")]], [low, [([], {})]], low + high,
            [low, [("dry", True)]], [low, [("Dry", 1)]],
        ]
        for value in bent + ODD:
            self.assertIs(check_layering(book, value), False, value)
        for value in but(ODD, lambda thing: thing == [] and isinstance(thing, list)):
            self.assertIs(check_layering(Book([]), value), False, value)
        self.assertTrue(check_layering(Book([]), []))
        for value in ([[("p", 0)], [("q", 0)]], [], [[("p", 0), ("q", 0), ("u", 0), ("v", 0)]]):
            self.assertFalse(check_layering(ODD_RING, value))


class Meanings(unittest.TestCase):
    def test_drawn_meanings_by_all_layerings(self):
        ways = 0
        for book, store, chance in drawn():
            lists = plain_layering(book)
            if lists is not None:
                expected = plain_meaning(book, store, lists)
                self.assertEqual(meaning(book, store), expected)
                self.assertEqual(meaning(book, store[::-1]), expected)
                others = plain_layerings(book)
                for layers in chance.draw.sample(others, min(len(others), 5)):
                    self.assertEqual(meaning_by(book, store, layers), expected)
                    ways += layers != lists
                rules = book.rules()
                chance.draw.shuffle(rules)
                self.assertEqual(meaning(Book(rules), store), expected)
        self.assertGreater(ways, 50)

    def test_of_plain_books_it_is_what_follows(self):
        for seed in range(60):
            chance = Chance(seed)
            book, store = chance.book(3, 2), chance.store(6)
            self.assertEqual(meaning(book, store), all_that_follows(book.rules(), store))
            self.assertEqual(meaning_by(book, store, layering(book)), meaning(book, store))
        self.assertEqual(meaning(Book([]), ROW[::-1]), ROW)

    def test_denied_patterns_are_held_against_given_facts_and_those_that_follow(self):
        book = Book([DRY, Rule("wet", ("rain",), [("cloud",)]), Rule("glad", ("glad",), [], None, [("dry", "a")])])
        self.assertEqual(meaning(book, [("hut", "a")]), [("dry", "a"), ("hut", "a")])
        self.assertEqual(meaning(book, [("hut", "a"), ("cloud",)]), [("cloud",), ("glad",), ("hut", "a"), ("rain",)])
        self.assertEqual(meaning(book, [("hut", "a"), ("rain",)]), [("glad",), ("hut", "a"), ("rain",)])
        self.assertEqual(meaning(book, [("rain",), ("dry", "a")]), [("dry", "a"), ("rain",)])
        self.assertEqual(meaning(WHOLE, HUTS)[1:3], [("lost", "b", "a"), ("lost", "b", "b")])

    def test_alike_books_below_have_the_same_meaning(self):
        top = Book([LOST, Rule("best", ("best", "X"), [("lost", "X", "Y")], None, [("lost", "Y", "X")])])
        more = Book([LONG]) + WAYS
        self.assertTrue(stands_on(top, WAYS) and stands_on(top, more))
        for seed in range(40):
            store = Chance(seed, kinds=(("road", 2), ("way", 2), ("hut", 1))).store(7)
            self.assertEqual(meaning(WAYS + top, store), meaning(more + top, store))

    def test_layers_that_are_none(self):
        right = [[("hut", 1), ("rain", 0)], [("dry", 1)]]
        store = [("hut", "a")]
        for layers in ODD + [right[::-1], tuple(right), [right[0] + right[1]]]:
            refused(self, InvalidLayers, layers, meaning_by, Book([DRY]), store, layers)
            refused(self, InvalidLayers, layers, meaning_by, layers=layers, store=store, book=Book([DRY]))
            refused(self, InvalidLayers, layers, meaning_by, ODD_RING, store, layers)
        self.assertEqual(meaning_by(Book([DRY]), store, right), [("dry", "a"), ("hut", "a")])
        self.assertEqual(meaning_by(Book([]), store, []), store)


class Accounts(unittest.TestCase):
    def test_drawn_accounts(self):
        for book, store, chance in drawn():
            lists = plain_layering(book)
            if lists is not None:
                lines = account(book, store)
                self.assertEqual(sorted(fact for _, fact, _ in lines), plain_meaning(book, store, lists))
                self.assertTrue(plain_check(book, store, lines))
                self.assertIs(check_account(book, store, copy.deepcopy(lines)), True)
                self.assertEqual(account(book, store[::-1]), lines)

    def test_a_way_that_is_denied_is_none(self):
        book = Book([Rule("no", ("goal",), [("p",)], None, [("q",)]), Rule("yes", ("goal",), [("p",)])])
        self.assertEqual([label for label, _, _ in account(book, [("p",), ("q",)])], [None, None, "yes"])
        self.assertTrue(check_account(book, [("p",)], account(book, [("p",)])))

    def test_check_account_of_bent_lines(self):
        right = wrong = 0
        for book, store, chance in drawn():
            if plain_layering(book) is not None:
                lines = account(book, store)
                for _ in range(12):
                    bent = copy.deepcopy(lines)
                    at = chance.draw.randrange(len(bent)) if bent else 0
                    way = chance.draw.randrange(6)
                    if way == 0:
                        chance.draw.shuffle(bent)
                    elif way == 1 and bent:
                        del bent[at]
                    elif way == 2:
                        bent.append((chance.draw.choice(book.labels() + [None]), chance.pattern(chance.names), [0]))
                    elif way == 3 and bent:
                        bent[at] = (chance.draw.choice(book.labels() + [None]), bent[at][1], bent[at][2])
                    elif way == 4 and bent:
                        bent[at] = (bent[at][0], bent[at][1], [chance.draw.randrange(len(bent)) for _ in bent[at][2]])
                    elif bent:
                        bent[at] = (bent[at][0], chance.pattern(chance.names), bent[at][2])
                    expected = plain_check(book, store, bent)
                    self.assertIs(check_account(book, store, bent), expected, (book, store, bent))
                    right, wrong = right + expected, wrong + (not expected)
        self.assertTrue(right > 100 and wrong > 100, (right, wrong))

    def test_given_facts_may_be_led_to(self):
        book = Book([STEP])
        store = [("road", "a", "b"), ("way", "a", "b")]
        for lines in (
            [(None, store[0], []), (None, store[1], [])], [(None, store[1], []), (None, store[0], [])], [(None, store[0], []), ("step", store[1], [0])],
        ):
            self.assertTrue(check_account(book, store, lines))

    def test_check_account_of_any_objects(self):
        store = [("hut", "a")]
        book = Book([DRY])
        right = [(None, ("hut", "a"), []), ("dry", ("dry", "a"), [0])]
        self.assertTrue(check_account(book, store, right))
        bent = [
            tuple(right), right[:1], right[1:], right[::-1], right + right[:1], right + [right[1]], [list(line) for line in right], [right[0], None],
            [right[0], ("dry", ("dry", "a"), (0,))], [right[0], ("dry", ("dry", "a"), [False])], [right[0], ("dry", ("dry", "a"), [1])],
            [right[0], ("dry", ("dry", "a"), [-1])], [right[0], ("dry", ("dry", "a"), [])], [right[0], ("dry", ("dry", "a"), [0, 0])],
            [right[0], ("dry", ("dry", "b"), [0])], [right[0], ("wet", ("dry", "a"), [0])], [right[0], (None, ("dry", "a"), [])],
            [right[0], (None, ("dry", "a"), [0])], [right[0], ("dry", ["dry", "a"], [0])], [right[0], ("dry", ("dry", "a"), ["0"])],
            [right[0], ("dry", ("dry", "a"))], [right[0], ("dry", ("dry", "a"), [0], [])], [right[0], (True, ("dry", "a"), [0])],
            [right[0], ("dry", None, [0])], [right[0], (DRY, ("dry", "a"), [0])], [(None, ("hut", "a"), ()), right[1]],
            [(None, ("hut", "a"), [0]), right[1]], right + [(None, ("rain",), [])], [(None, ("rain",), [])] + right, [right[0], ("dry", ("dry", "a"), None)],
        ]
        for value in bent + ODD:
            self.assertIs(check_account(book, store, value), False, value)
        self.assertTrue(check_account(Book([]), [], []))

    def test_denied_facts_of_later_lines(self):
        book = Book([DRY, Rule("wet", ("rain",), [("dry", "X")])])
        store = [("hut", "a")]
        self.assertFalse(check_account(book, store, [(None, store[0], []), ("dry", ("dry", "a"), [0]), ("wet", ("rain",), [1])]))
        self.assertFalse(check_account(book, store, [(None, store[0], [])]))

    def test_books_without_a_layering(self):
        # Either may be there if the other one is not: two accounts with unlike facts.
        either = Book([Rule("one", ("egg",), [], None, [("hen",)]), Rule("two", ("hen",), [], None, [("egg",)])])
        self.assertTrue(check_account(either, [], [("one", ("egg",), [])]) and check_account(either, [], [("two", ("hen",), [])]))
        for value in ([], [("one", ("egg",), []), ("two", ("hen",), [])], [(None, ("egg",), [])]):
            self.assertFalse(check_account(either, [], value))
        never = Book([Rule("no", ("egg",), [], None, [("egg",)])])
        for value in ([], [("no", ("egg",), [])], [(None, ("egg",), [])]):
            self.assertFalse(check_account(never, [], value))
        self.assertTrue(check_account(never, [("egg",)], [(None, ("egg",), [])]))


class OnTop(unittest.TestCase):
    def test_stands_on(self):
        for book, _, chance in drawn(60):
            below = chance.book(2, 2)
            heads = {kind(r.head) for r in book.rules()}
            self.assertIs(stands_on(book, below), not heads & {kind(p) for r in below.rules() for p in r.told})
        self.assertEqual([stands_on(Book([LOST]), WAYS), stands_on(WAYS, WAYS), stands_on(Book([STEP]), Book([STEP]))], [True, False, True])
        self.assertEqual([stands_on(Book([]), WAYS), stands_on(WAYS, Book([])), stands_on(Book([FAR]), Book([STEP]))], [True, True, True])
        self.assertTrue(stands_on(Book([Rule("r", ("road", "X"), [("way", "X", "Y")])]), WAYS))


class Arguments(unittest.TestCase):
    def test_wrong_arguments(self):
        refuses_wrong(self, layering, ["book"], ["book"], [WHOLE])
        refuses_wrong(self, check_layering, ["book", "value"], ["book", None], [WHOLE, None])
        for call in (meaning, account):
            refuses_wrong(self, call, ["book", "store"], ["book", "store"], [WHOLE, HUTS])
        refuses_wrong(self, meaning_by, ["book", "store", "layers"], ["book", "store", None], [WHOLE, HUTS, layering(WHOLE)])
        refuses_wrong(self, check_account, ["book", "store", "value"], ["book", "store", None], [WHOLE, HUTS, None])
        refuses_wrong(self, stands_on, ["top", "book"], ["book", "plain book"], [WHOLE, WAYS])

    def test_not_layered_comes_ahead_of_what_is_wrong_with_the_store(self):
        for call in (meaning, account):
            for _, thing in WRONG["store"][:9]:
                with self.assertRaises(NotLayered):
                    call(ODD_RING, thing)
                with self.assertRaises(NotLayered):
                    call(store=thing, book=ODD_RING)
        for _, thing in WRONG["store"]:
            self.assertRaises(ValueError, meaning_by, ODD_RING, thing, [])

    def test_nothing_that_is_passed_is_changed_and_results_are_new(self):
        store, layers = HUTS[::-1], layering(WHOLE)[:]
        layering(WHOLE)[0].clear()
        meaning(WHOLE, store).clear()
        meaning_by(WHOLE, store, layers).clear()
        lines = account(WHOLE, store)
        kept = copy.deepcopy(lines)
        lines[-1][2].append(0)
        lines.clear()
        self.assertEqual([account(store=store, book=WHOLE), store, layers], [kept, HUTS[::-1], layering(book=WHOLE)])
        self.assertEqual(meaning(book=WHOLE, store=store), meaning_by(layers=layers, store=store, book=WHOLE))
        for _ in range(2):
            try:
                layering(ODD_RING)
            except NotLayered as caught:
                self.assertEqual(caught.ring, [("v", 0)])
                caught.ring.clear()
        self.assertEqual(closed(WAYS, ROW), meaning(WAYS, ROW))


if __name__ == "__main__":
    unittest.main()
