"""What the tests share: samples, wrong objects, and the promises worked out by going through all there is."""

import random
from itertools import combinations, product

from neverapart import errors
from neverapart.deeds import Deed
from neverapart.guards import Guard
from neverapart.live import Engine
from neverapart.making import Maker
from neverapart.rules import Book, Question, Rule

STEP = Rule("step", ("way", "X", "Y"), [("road", "X", "Y")])
FAR = Rule("far", ("way", "X", "Z"), [("way", "X", "Y"), ("way", "Y", "Z")])
LONG = Rule("long", ("way", "X", "Z"), [("road", "X", "Y"), ("way", "Y", "Z")])
DRY = Rule("dry", ("dry", "X"), [("hut", "X")], None, [("rain",)])
WAYS = Book([STEP, FAR])
ROW = [("road", "a", "b"), ("road", "b", "c")]
TOWN = [("road", "a", "b"), ("road", "b", "c"), ("road", "c", "a"), ("hut", "c")]
TWO = Question(["X", "Z"], [("road", "X", "Y"), ("road", "Y", "Z"), ("hut", "Z")])
GO = Deed("go", 0, [("at", "X"), ("road", "X", "Y")], [0], [("at", "Y")])
TIRE = Deed("tire", 1, [("at", "X"), ("hut", "X")], [0], [("home", "X")])
BACK = Guard("back", [("way", "X", "X")])
TWIN = Guard("twin", [("hut", "X"), ("hut", "Y")], [("X", "Y")])
OWN = Maker("own", [("owns", "X", "Y"), ("hut", "Y")], ("man", "X"))
ROUND = Question(["X"], [("way", "X", "X")])

ODD = [
    None, True, False, 0, 1, -1, "", "road", "X", [], (), {}, [[]], ((),), {"a": "b"}, {True: 1}, [None], (None,), STEP, WAYS, TWO, GO,
    BACK, OWN, Engine([]),
]
NO_NAMES = ["", "aaaaaaaaaaa", "A", "aB", "a b", "a1", " a", "a\n", None, True, 0, ("a",), ["a"], {}, STEP]
NO_FACTS = [
    (), ("",), ("aaaaaaaaaaa",), ("Road", "a"), ("road", "X"), ("road", ""), ("road", "aaaaaaaaaaa"), ("road", "a1"),
    ("road", "a", "b", "c", "d"), ("road", ["a"]), ("road", ("a",)), ("road", None), ("road", True), (1,), ["road", "a"],
    [("road", "a")],
]
NO_STORES = [
    [()], ROW + ROW[:1], tuple(ROW), [("road", "X", "b")], [["road", "a", "b"]], ROW + [None], ROW[0], [STEP], {ROW[0]: True},
]


NO_CHANGES = [
    None, (), [], "tell", ("tell",), ("tell", ROW[0], ROW[0]), ["tell", ROW[0]], ("told", ROW[0]), ("put", "w"), ("put", "w", WAYS, WAYS),
    ("drop",), ("drop", "w", WAYS), ("exchange", "w"), ("view", "v"), ("unview",), ("unview", "v", ROUND), ("undo",), (["tell"], ROW[0]),
    (None, ROW[0]), ({}, ROW[0]), (True, ROW[0]), ("Tell", ROW[0]), (("tell",), ROW[0]), ("ask", ROW[0]), (),
]
GUARDINGS = [("guard", BACK), ("unguard", "back")]
NO_COMMANDS = [thing for thing in NO_CHANGES if thing != ("ask", ROW[0]) and thing != ("undo",)] + GUARDINGS + [
    ("tell", ("way", "X")), ("take", ["way"]), ("tell", None), ("put", "W", WAYS), ("put", "w", [STEP]), ("put", "w", None), ("put", "w", TWO),
    ("drop", ""), ("drop", ("w",)), ("exchange", "w", STEP), ("exchange", WAYS, "w"), ("view", "v", WAYS), ("view", "", TWO), ("unview", "V"),
    ("undo", None), ("redo", "a"), ("undo", ()), ("ask",), ("ask", "way"), ("ask", ()), ("ask", ["way", "X"]), ("ask", ("way", "X", 1)),
    ("why", ("way", "X")), ("why",), ("seen", "V"), ("seen", None), ("seen", "v", "v"), ("try",), ("try", None), ("try", ()), ("try", [[]]),
    ("try", [("try", [("undo", 1)])]), ("try", [], []), ("try", ("undo",)), ["undo"], "undo", ("UNDO",), (True,), (("undo",),), ("ask", []),
    ("tries", []), ("play", [("undo",)]), (["try"], []), (None, []), ("put", []), ("undo", []),
]


def but(objects, *forms):
    """Objects without those that have one of these forms."""
    return [thing for thing in objects if not any(form(thing) for form in forms)]


def empty_list(thing):
    return isinstance(thing, list) and not thing


def of(kind):
    return lambda thing: isinstance(thing, kind)


# For each kind of argument: the error for wrong objects, and wrong objects.
WRONG = {
    "fact": [(errors.InvalidFact, thing) for thing in ODD + NO_FACTS],
    "store": [(errors.InvalidStore, thing) for thing in but(ODD, empty_list) + NO_STORES],
    "rule": [(errors.InvalidRule, thing) for thing in but(ODD, of(Rule))],
    "book": [(errors.InvalidBook, thing) for thing in but(ODD, of(Book)) + [[STEP]]],
    "question": [(errors.InvalidQuestion, thing) for thing in but(ODD, of(Question))],
    "deed": [(errors.InvalidDeed, thing) for thing in but(ODD, of(Deed)) + [[GO]]],
    "deeds": [
        (errors.InvalidDeed, thing)
        for thing in but(ODD, empty_list) + [(GO, TIRE), [GO, GO], [GO, Deed("go", 2, [], [], [])], [GO, None], [GO, STEP], {"go": GO}]
    ],
    "count": [(errors.InvalidNumber, thing) for thing in but(ODD, lambda thing: type(thing) is int and thing >= 0) + ["1", [1], -300]],
    "text": [(errors.InvalidText, thing) for thing in but(ODD, of(str)) + ["\n", "road(", "a\n", "road(a,b)"]],
}
WRONG["log"] = [
    (errors.InvalidLog, thing)
    for thing in but(ODD, empty_list) + [(("tell", ROW[0]),), {"tell": ROW[0]}] + [[("tell", ROW[0]), one] for one in NO_CHANGES + GUARDINGS]
]
WRONG["script"] = [
    (errors.InvalidScript, thing)
    for thing in but(ODD, empty_list) + [(("undo",),), {("undo",): 1}] + [[("undo",), one] for one in NO_COMMANDS]
]
WRONG["guards"] = [
    (errors.InvalidGuard, thing)
    for thing in but(ODD, empty_list) + [(BACK,), [BACK, BACK], [TWIN, Guard("twin", [])], [BACK, None], [STEP], {"back": BACK}]
]
WRONG["guard"] = [(errors.InvalidGuard, thing) for thing in but(ODD, of(Guard)) + [[BACK]]]
WRONG["makers"] = [
    (errors.InvalidBook, thing)
    for thing in but(ODD, empty_list) + [(OWN,), [OWN, OWN], [OWN, Maker("own", [("p",)], ("q",))], [OWN, None], [STEP], {"own": OWN}]
]
WRONG["maker"] = [(errors.InvalidRule, thing) for thing in but(ODD, of(Maker)) + [[OWN], Rule("own", ("p",), [])]]
WRONG["edition"] = [
    (errors.InvalidEdition, thing) for thing in ODD + [
        ([], {}), ([], {}, {}, {}), [[], {}, {}], (ROW[::-1], {}, {}), (ROW + ROW[-1:], {}, {}), (tuple(ROW), {}, {}), ([("way", "X")], {}, {}),
        (None, {}, {}), ([], [], {}), ([], {"W": WAYS}, {}), ([], {1: WAYS}, {}), ([], {"w": [STEP]}, {}), ([], {"w": STEP}, {}),
        ([], {"w": Book([STEP, DRY])}, {}), ([], {"v": Book([STEP]), "w": WAYS}, {}), ([], {"w": None}, {}), ([], {}, []), ([], {}, {"V": TWO}),
        ([], {}, {"v": WAYS}), ([], {}, {"v": None}), ([], {}, {"": TWO}), ([], {}, None), ([], {("w",): WAYS}, {}), ([], {}, {True: TWO}),
    ]
]
NO_DATES = [("p",), (ROW[0],), (ROW[0], True), (ROW[0], False), (ROW[0], "1"), (ROW[0], (1,)), (ROW[0], 1, 1), [ROW[0], 1], (("way", "X"), 1), (None, 1), (1, ROW[0]), 7]
WRONG["dates"] = [
    (errors.InvalidDates, thing)
    for thing in but(ODD, empty_list) + [ROW, ((ROW[0], 1),), {ROW[0]: 1}, [(ROW[0], 1), (ROW[0], 2)], [(ROW[0], None), (ROW[1], 3), (ROW[0], None)]]
    + [[(ROW[1], 5), one] for one in NO_DATES]
]
WRONG["moment"] = [(errors.InvalidNumber, thing) for thing in but(ODD, lambda thing: type(thing) is int) + ["1", [1], (1,)]]
NO_CHANCES = [
    None, True, 1, (1,), (1, 2, 3), [1, 2], (True, 1), (1, True), (False, 1), (0, 0), (1, 0), (2, 1), (-1, 2), (1, -2), (-1, -2), ("1", 2), (1, None), ((1, 2), 1),
]
WRONG["chances"] = [
    (errors.InvalidChances, thing)
    for thing in but(ODD, empty_list) + [ROW, ((ROW[0], (1, 2)),), {ROW[0]: (1, 2)}, [(ROW[0], (1, 2)), (ROW[0], (1, 3))], [[ROW[0], (1, 2)]], [(ROW[0],)]]
    + [[(ROW[1], (1, 2)), (ROW[0], one)] for one in NO_CHANCES] + [[(one, (1, 2))] for one in NO_FACTS]
]
WRONG["count of at least 1"] = WRONG["count"] + [(errors.InvalidNumber, 0)]
WRONG["plain rule"] = WRONG["rule"] + [(errors.NotPlain, DRY)]
WRONG["plain book"] = WRONG["book"] + [(errors.NotPlain, Book([STEP, DRY]))]


def refused(test, error, value, call, /, *arguments, **named):
    """A call raises just this error, and its field holds just this object."""
    try:
        call(*arguments, **named)
    except errors.NeverError as caught:
        test.assertIs(type(caught), error, (call, arguments, named))
        test.assertIs(caught.value, value, (call, arguments, named))
    else:
        test.fail(f"nothing raised: {call} {arguments} {named}")


def refuses_wrong(test, call, names, kinds, right):
    """A function refuses wrong objects in each place, alone and with wrong ones behind them."""
    for place, kind in enumerate(kinds):
        if kind is None:
            continue
        for error, thing in WRONG[kind]:
            alone = right[:place] + [thing] + right[place + 1:]
            refused(test, error, thing, call, *alone)
            for worse in ((), {1: 1}):
                behind = right[:place] + [thing] + [worse] * (len(right) - place - 1)
                refused(test, error, thing, call, *behind)
                refused(test, error, thing, call, **dict(reversed(list(zip(names, behind)))))


def variables_in(patterns):
    found = []
    for pattern in patterns:
        for term in pattern[1:]:
            if term.isupper() and term not in found:
                found.append(term)
    return found


def put(pattern, names):
    return (pattern[0],) + tuple(names.get(term, term) for term in pattern[1:])


def names_in_terms(*lists):
    """The names that stand in patterns, as terms, or in pairs."""
    return sorted({t for terms in lists for t in terms if t.islower()})


def names_in_rules(rules):
    patterns = [p[1:] for r in rules for p in [r.head] + r.told + r.denied]
    return names_in_terms(*patterns, *[p for r in rules for p in r.pairs])


def names_in_question(question):
    return names_in_terms(*[p[1:] for p in question.told], *question.pairs)


def all_matches(told, pairs, store, denied=()):
    """All matches, as dictionaries: all ways of giving names are gone through."""
    store = set(store)
    terms = variables_in(told)
    names = sorted({name for fact in store for name in fact[1:]})
    found = []
    for row in product(names, repeat=len(terms)):
        names_of = dict(zip(terms, row))
        if all(put(p, names_of) in store for p in told) and apart(pairs, names_of) and not any(put(p, names_of) in store for p in denied):
            found.append(names_of)
    return found


def apart(pairs, names):
    return all(names.get(a, a) != names.get(b, b) for a, b in pairs)


def all_answers(question, store):
    found = all_matches(question.told, question.pairs, store)
    return sorted({tuple(names[column] for column in question.columns) for names in found})


def all_ways_to_name(terms, names):
    """All ways to give variables these names, or as many others as there are variables."""
    fresh = [f"z{'z' * k}" for k in range(len(terms))]
    return [dict(zip(terms, row)) for row in product(list(names) + fresh, repeat=len(terms))]


def without_one(things):
    return [things[:at] + things[at + 1:] for at in range(len(things))]


def all_steps(rules, store):
    """All tuples (label, told facts, head) at all matches in a store."""
    return [
        (rule.label, [put(p, names) for p in rule.told], put(rule.head, names))
        for rule in rules for names in all_matches(rule.told, rule.pairs, store)
    ]


def all_rounds(rules, store):
    lists = [sorted(store)]
    while True:
        there = [fact for facts in lists for fact in facts]
        fresh = sorted({head for _, _, head in all_steps(rules, there)} - set(there))
        if not fresh:
            return lists
        lists.append(fresh)


def all_that_follows(rules, store):
    return sorted(fact for facts in all_rounds(rules, store) for fact in facts)


def all_subsets(things):
    return [list(some) for many in range(len(things) + 1) for some in combinations(things, many)]


def all_bodies(rule, names):
    """All ways to give a rule these names, or as many others as it has variables."""
    ways = [way for way in all_ways_to_name(variables_in(rule.told), names) if apart(rule.pairs, way)]
    return [(sorted({put(p, way) for p in rule.told}), put(rule.head, way)) for way in ways]


def rule_follows(rules, rule):
    names = names_in_rules(rules + [rule])
    return all(fact in all_that_follows(rules, store) for store, fact in all_bodies(rule, names))


def all_breaks(rules, guards, store):
    """The tuples of the label and the match, as a tuple of names, of all matches of guards in what follows."""
    follows = all_that_follows(rules, store)
    return sorted((g.label, tuple(names.values())) for g in guards for names in all_matches(g.told, g.pairs, follows))


def all_repairs(rules, guards, store):
    """All least lists of facts without which a store is sound."""
    out = [set(some) for some in all_subsets(sorted(store)) if not all_breaks(rules, guards, [f for f in store if f not in some])]
    return sorted(sorted(some) for some in out if not any(less < some for less in out))


class Chance:
    """Rules, books and stores drawn by a number, the same each time."""

    def __init__(self, seed, names="abc", kinds=(("p", 1), ("q", 2), ("r", 2), ("s", 0)), letters="XYZ", pairs=True):
        self.draw = random.Random(seed)
        self.names, self.kinds, self.letters, self.pairs = list(names), list(kinds), list(letters), pairs

    def pattern(self, terms):
        word, number = self.draw.choice(self.kinds)
        return (word,) + tuple(self.draw.choice(terms) for _ in range(number))

    def told(self, most=3):
        terms = self.letters * 5 + self.names[:2]
        least = 0 if self.draw.random() < 0.1 else 1
        return [self.pattern(terms) for _ in range(self.draw.randint(least, most))]

    def some_pairs(self, told):
        terms = variables_in(told)
        pairs = []
        if self.pairs and terms and self.draw.random() < 0.4:
            for _ in range(self.draw.randint(1, 2)):
                one = self.draw.choice(terms)
                other = self.draw.choice([t for t in terms + self.names[:1] if t != one])
                pairs.append(self.draw.choice([(one, other), (other, one)]))
        return pairs

    def rule(self, label, most=3):
        told = self.told(most)
        return Rule(label, self.pattern(variables_in(told) * 5 + self.names[:1]), told, self.some_pairs(told))

    def book(self, many, most=3):
        return Book([self.rule(label, most) for label in "jklmnopqrstu"[:many]])

    def question(self, most=3):
        told = self.told(most)
        terms = variables_in(told)
        return Question([t for t in terms if self.draw.random() < 0.5], told, self.some_pairs(told))

    def denying_rule(self, label, most=2):
        told = self.told(most)
        terms = variables_in(told) * 3 + self.names[:1]
        denied = [self.pattern(terms) for _ in range(self.draw.randint(0, 2))]
        return Rule(label, self.pattern(terms), told, self.some_pairs(told), denied)

    def deed(self, label, most=2):
        told = self.told(most)
        terms = variables_in(told) * 3 + self.names[:1]
        takes = [at for at in range(len(told)) if self.draw.random() < 0.5]
        self.draw.shuffle(takes)
        puts = [self.pattern(terms) for _ in range(self.draw.randint(0, 2))]
        denied = [self.pattern(terms) for _ in range(self.draw.choice([0, 0, 1]))]
        return Deed(label, self.draw.choice([-1, 0, 0, 2]), told, takes, puts, self.some_pairs(told), denied)

    def guard(self, label, most=2):
        told = self.told(most)
        return Guard(label, told, self.some_pairs(told))

    def guards(self, many, most=2):
        return [self.guard(label, most) for label in ["ha", "hb", "hc", "hd"][:many]]

    def store(self, many):
        facts = sorted({self.pattern(self.names) for _ in range(many)})
        self.draw.shuffle(facts)
        return facts
