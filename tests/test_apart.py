"""[230] and [231] Editions that nothing tells apart: judged by playing, also without each command."""

import unittest

from neverapart.apart import check_parting_script, never_apart, parting_script
from neverapart.branches import engine_of
from neverapart.books import alike
from neverapart.questions import same_answers
from neverapart.rules import Book, Question, Rule
from neverapart.scripts import play
from plainly import FAR, LONG, NO_COMMANDS, ODD, ROUND, ROW, STEP, TWO, WAYS, Chance, refuses_wrong, without_one
from scripted import drawn_script
from test_branches import drawn_edition

AB, BC = ROW
BARE = ([], {}, {})
RAIN = ("rain",)
# Books under one name that are alike with the same labels, and ones that are not.
MORE = Rule("more", ("way", "X", "Z"), [("road", "X", "Y"), ("way", "Y", "Z")])
TWINS = [Book([STEP, FAR, MORE]), Book([MORE, FAR, STEP]), Book([Rule("step", FAR.head, FAR.told), Rule("far", STEP.head, STEP.told), MORE])]


def has_why(script):
    return any(command[0] == "why" or (command[0] == "try" and has_why(command[1])) for command in script)


def says(one, script):
    return play(engine_of(one), script)


def parts(one, other, script):
    return says(one, script) != says(other, script)


def is_parting(one, other, script):
    """As [231] says it, by playing alone."""
    return not has_why(script) and parts(one, other, script) and not any(parts(one, other, less) for less in without_one(script))


def are_same(one, other):
    """The conditions of [230]."""
    if one[0] != other[0] or sorted(one[1]) != sorted(other[1]) or sorted(one[2]) != sorted(other[2]):
        return False
    books = all(sorted(one[1][name].labels()) == sorted(other[1][name].labels()) and alike(one[1][name], other[1][name]) for name in one[1])
    return books and all(same_answers(one[2][name], other[2][name]) for name in one[2])


def bent(one, chance):
    """An edition that differs in little, or in nothing that a script without why says."""
    given, books, views = list(one[0]), dict(one[1]), dict(one[2])
    draw = chance.draw
    for name in list(books):
        rules = books[name].rules()
        if draw.random() < 0.5:
            draw.shuffle(rules)
        if rules and draw.random() < 0.3:
            rules[0] = Rule(rules[0].label, rules[0].head, rules[0].told + rules[0].told[:1], rules[0].pairs)
        books[name] = Book(rules)
    for name in list(views):
        if draw.random() < 0.5:
            views[name] = Question(views[name].columns, views[name].told[::-1] + views[name].told[:1], views[name].pairs)
    return given, books, views


def pairs(many):
    for seed in range(many):
        chance = Chance(seed, names="ab", kinds=(("road", 2), ("way", 2), ("rain", 0)), letters="XY")
        one = drawn_edition(chance)
        if chance.draw.random() < 0.4 and one[1]:
            name = chance.draw.choice(sorted(one[1]))
            one[1][name] = chance.draw.choice([Book([Rule("u", ("way", "X", "X"), [("road", "X", "X")])]), chance.book(2, 2)])
        other = bent(one, chance)
        way = chance.draw.choice(["same", "book", "edition", "view", "labels", "fact", "edition"])
        if way == "edition":
            other = drawn_edition(chance, one)
        elif way == "book" and other[1]:
            name = chance.draw.choice(sorted(other[1]))
            labels = other[1][name].labels()
            other[1][name] = Book([chance.rule(label, 2) for label in labels])
        elif way == "labels" and other[1]:
            name = chance.draw.choice(sorted(other[1]))
            rules = other[1][name].rules()
            other[1][name] = Book([Rule("z" + rule.label, rule.head, rule.told, rule.pairs) for rule in rules])
        elif way == "view" and other[2]:
            other[2][chance.draw.choice(sorted(other[2]))] = chance.question(2)
        elif way == "fact":
            other = (sorted({*other[0]} ^ {RAIN}), *other[1:])
        yield one, other, chance


class NeverApart(unittest.TestCase):
    def test_drawn_editions(self):
        seen = {"same": 0, "parted": 0, "short": 0, "long": 0}
        for one, other, chance in pairs(300):
            same = are_same(one, other)
            self.assertEqual([never_apart(one, other), never_apart(other=one, one=other)], [same, same])
            script = parting_script(one, other)
            if same:
                self.assertIsNone(script)
                # No script without why tells them apart, nor shows anything to be judged.
                for _ in range(4):
                    drawn = drawn_script(chance, 8, 2, False)
                    self.assertEqual(says(one, drawn), says(other, drawn))
                    self.assertIs(check_parting_script(one, other, drawn), False)
                seen["same"] += 1
                continue
            self.assertTrue(is_parting(one, other, script), script)
            self.assertEqual(parting_script(other=other, one=one), script)
            # The order of keys means nothing.
            turned = [(given, dict(reversed(books.items())), dict(reversed(views.items()))) for given, books, views in (one, other)]
            self.assertEqual(parting_script(*turned), script)
            seen["parted"] += 1
            seen["short" if len(script) == 1 else "long"] += 1
            self.judge(one, other, script, chance)
        self.assertTrue(min(seen.values()) > 20, seen)

    def judge(self, one, other, script, chance):
        self.assertIs(check_parting_script(one, other, script), True)
        self.assertIs(check_parting_script(value=script, other=one, one=other), True)
        bents = [script * 2, script + [("ask", RAIN)], [("try", script)], [("try", script), ("ask", RAIN)], script[:-1], script[::-1], []]
        bents += [[("tell", RAIN)], [("seen", "v")], [("drop", "f")], drawn_script(chance, 3, 1, False), script + [("why", AB)], [("try", script + [("why", AB)])]]
        bents += [[("try", script[:-1])], [("try", [("try", script + [("undo",)])])]]
        for value in bents:
            self.assertIs(check_parting_script(one, other, value), is_parting(one, other, value), value)

    def test_what_differs(self):
        both = WAYS + Book([LONG])
        one = ([AB], {"a": Book([STEP]), "b": Book([FAR])}, {"v": ROUND})
        for other, script in (
            (([], one[1], one[2]), [("tell", AB)]), (([AB, BC], one[1], one[2]), [("tell", BC)]), (([AB], {"a": Book([STEP])}, one[2]), [("drop", "b")]),
            (([AB], one[1], {}), [("seen", "v")]), (([AB], one[1], {"v": ROUND, "w": TWO}), [("seen", "w")]),
        ):
            self.assertEqual([parting_script(one, other), parting_script(other, one), never_apart(one, other)], [script, script, False])
        # A label more, though the books are alike.
        self.assertFalse(never_apart(([], {"w": WAYS}, {}), ([], {"w": both}, {})))
        script = parting_script(([], {"w": WAYS}, {}), ([], {"w": both}, {}))
        self.assertEqual([len(script), script[0][0], script[0][2].labels()], [1, "put", ["long"]])
        # Labels that stand under other names.
        first, second = Book([Rule("r", ("p",), [("q",)])]), Book([Rule("s", ("p",), [("q",)])])
        here, there = ([], {"a": first, "b": second}, {}), ([], {"a": second, "b": first}, {})
        script = parting_script(here, there)
        self.assertEqual([script[0][0], len(script), is_parting(here, there, script), check_parting_script(here, there, script)], ["exchange", 1, True, True])
        # A name for the book that is put in is free, whatever names there are.
        crowded = {"x": WAYS, "xx": Book([]), "xxx": Book([LONG])}
        other = {**crowded, "xxx": Book([Rule("zz", LONG.head, LONG.told)])}
        script = parting_script(([], crowded, {}), ([], other, {}))
        self.assertTrue(is_parting(([], crowded, {}), ([], other, {}), script))

    def test_books_that_are_not_alike(self):
        rules = [Rule("r", ("big",), [(word,)]) for word in "pq"]
        hiding = Book([Rule("one", ("big",), [("p",)]), Rule("two", ("big",), [("q",)])])
        for given, more, words in (
            ([], {}, ["tell"]), ([("sun",)], {}, ["tell"]), ([("p",)], {"z": Book([])}, []), ([("big",)], {}, ["take", "tell"]),
            ([], {"z": hiding}, ["drop", "tell"]), ([("big",), ("sun",)], {"a": Book([]), "z": hiding}, ["drop", "take", "tell"]),
        ):
            one, other = [(given, {"w": Book([rule]), **more}, {}) for rule in rules]
            for script in (parting_script(one, other), parting_script(other, one)):
                self.assertTrue(is_parting(one, other, script), script)
                self.assertLessEqual(len(script), max(1, len(words)))
            self.assertEqual(sorted({command[0] for command in script} - {"ask"}), words)
        # The order of keys means nothing, though books of two names part, and views of two names.
        halves = [{"a": Book([rule]), "b": Book([Rule("s", ("far",), rule.told)])} for rule in rules]
        views = [{"u": Question([], [(word,)]), "v": Question([], [(word,), ("sun",)])} for word in "pq"]
        for pair in ([([], half, {}) for half in halves], [([], {}, view) for view in views]):
            for script in (parting_script(*pair), parting_script(*[(given, dict(reversed(half.items())), dict(reversed(view.items()))) for given, half, view in pair])):
                self.assertTrue(is_parting(*pair, script))
                self.assertEqual(script, parting_script(*pair))
        # Views: what hides the difference has to go.
        views = [Question([], [("way", "X", "X")]), Question([], [("way", "X", "Y")])]
        for body, given in (([("road", "X", "Y")], [("way", "a", "a")]), ([("way", "X", "Y")], []), ([("way", "X", "Y")], [("way", "a", "a")])):
            books = {"w": Book([Rule("all", ("way", "X", "X"), body)]), "z": Book([])}
            one, other = [(given, books, {"v": view}) for view in views]
            script = parting_script(one, other)
            self.assertTrue(is_parting(one, other, script) and len(script) > 1 and script[-1] == ("seen", "v"), script)
            self.assertEqual(("drop", "w") in script, body[0][0] == "way")

    def test_nothing_that_a_script_without_why_says(self):
        for one in TWINS:
            for other in TWINS:
                editions = [(ROW, {"w": book, "a": Book([LONG])}, {"v": ROUND}) for book in (one, other)]
                self.assertEqual([never_apart(*editions), parting_script(*editions)], [True, None])
                # Why tells them apart, but does not count.
                self.assertIs(check_parting_script(*editions, [("why", ("way", "a", "b"))]), False)
        editions = [(ROW, {"w": book}, {}) for book in (TWINS[0], TWINS[2])]
        self.assertTrue(parts(*editions, [("why", ("way", "a", "b"))]) and never_apart(*editions))
        self.assertIs(check_parting_script(*editions, [("try", [("why", ("way", "a", "b"))])]), False)
        self.assertTrue(never_apart(BARE, BARE) and never_apart(([], {"a": WAYS, "b": Book([])}, {}), ([], {"b": Book([]), "a": Book([FAR, STEP])}, {})))

    def test_scripts_with_why(self):
        one, other = BARE, ([RAIN], {}, {})
        for script in ([("tell", RAIN), ("why", AB)], [("why", RAIN)], [("try", [("try", [("why", RAIN)])])], [("try", [("tell", RAIN), ("why", AB)])]):
            self.assertIs(check_parting_script(one, other, script), False)
        for script in ([("tell", RAIN)], [("ask", RAIN)], [("take", RAIN)], [("try", [("tell", AB), ("ask", RAIN)])]):
            self.assertIs(check_parting_script(one, other, script), True)
        for script in ([], [("tell", RAIN), ("tell", AB)], [("tell", RAIN), ("ask", RAIN)], [("undo",)], [("ask", AB)]):
            self.assertIs(check_parting_script(one, other, script), False)
        # Two commands that part only together.
        here, there = ([], {"w": Book([STEP])}, {}), ([], {"w": Book([Rule("step", ("way", "Y", "X"), [("road", "X", "Y")])])}, {})
        self.assertIs(check_parting_script(here, there, [("view", "v", Question(["X"], [("way", "X", "b")])), ("try", [("tell", AB)])]), False)
        self.assertIs(check_parting_script(here, there, [("tell", AB)]), True)
        self.assertIs(check_parting_script(here, there, [("tell", ("road", "a", "a"))]), False)

    def test_any_objects(self):
        one, other = BARE, ([RAIN], {}, {})
        for thing in ODD + [(("tell", RAIN),), [("tell", RAIN), None], ("tell", RAIN), [["tell", RAIN]], {("tell", RAIN): 1}] + [[bad] for bad in NO_COMMANDS]:
            self.assertIs(check_parting_script(one, other, thing), False)

    def test_wrong_arguments(self):
        for call in (never_apart, parting_script):
            refuses_wrong(self, call, ["one", "other"], ["edition", "edition"], [BARE, BARE])
        refuses_wrong(self, check_parting_script, ["one", "other", "value"], ["edition", "edition", None], [BARE, BARE, []])

    def test_nothing_is_shared(self):
        one, other = ([AB], {"w": WAYS}, {"v": ROUND}), ([AB], {"w": Book([STEP, Rule("far", LONG.head, LONG.told)])}, {"v": ROUND})
        kept = parting_script(one, other)
        parting_script(one, other).append(1)
        self.assertEqual(parting_script(one, other), kept)
        self.assertEqual([one, other[0], len(other[1]), other[2]], [([AB], {"w": WAYS}, {"v": ROUND}), [AB], 1, {"v": ROUND}])


if __name__ == "__main__":
    unittest.main()
