"""[150] to [154] Scripts: played beside an engine that is led by hand, their texts, and their ends on all stores."""

import unittest
from itertools import permutations

from neverapart.books import alike
from neverapart.errors import InvalidScript, InvalidText, NeverError, NothingToRedo, NothingToUndo
from neverapart.live import Engine
from neverapart.papers import check_paper
from neverapart.rules import Book, Question, Rule
from neverapart.scripts import parting_start, play, read_script, said_text, same_end, script_text, trimmed
from plainly import (
    DRY, FAR, LONG, NO_COMMANDS, ODD, ROUND, ROW, STEP, TWO, WAYS, WRONG, Chance, all_subsets, but, of, refused, refuses_wrong, without_one,
)
from scripted import REFUSALS, by_hand, command_lines, drawn_script, item_lines, paper_height, relabelled

AB, BC = ROW
THERE = ("way", "a", "X")


def drawn(many, length=12):
    for seed in range(many):
        chance = Chance(seed, names="ab", letters="XY")
        yield chance.store(3), drawn_script(chance, length), chance


class Played(unittest.TestCase):
    def same(self, one, other):
        """Two engines are the same in all that they tell."""
        for name in ("given", "closed", "books", "views", "whole", "turned", "log", "__len__"):
            self.assertEqual(getattr(one, name)(), getattr(other, name)(), name)
        for view in one.views():
            self.assertEqual([one.question(view), one.seen(view)], [other.question(view), other.seen(view)])
        for name in one.books():
            self.assertEqual(one.book(name), other.book(name))

    def same_all_along(self, one, other):
        self.same(one, other)
        one, other = one.copy(), other.copy()
        for back, error in (("undo", NothingToUndo), ("redo", NothingToRedo)):
            while True:
                try:
                    getattr(one, back)()
                except NeverError as caught:
                    self.assertIs(type(caught), error)
                    self.assertRaises(error, getattr(other, back))
                    break
                getattr(other, back)()
                self.same(one, other)

    def test_beside_an_engine_that_is_led_by_hand(self):
        refusals, words = {}, {}
        for store, script, _ in drawn(150):
            one, other = Engine(store), Engine(store)
            said = play(one, script)
            expected = [by_hand(other, command) for command in script]
            self.assertEqual(said, expected)
            self.same_all_along(one, other)
            self.assertEqual([play(engine=one, script=script), len(said)], [[by_hand(other, command) for command in script], len(script)])
            self.same_all_along(one, other)
            self.count(said, refusals, words)
        self.assertEqual(sorted(refusals), sorted(one.__name__ for one in REFUSALS if one.__name__ != "Unsound"))
        self.assertTrue(min(refusals.values()) > 8 and min(words.values()) > 8, (refusals, words))
        self.assertEqual(sorted(words), ["came", "done", "refused", "seen", "told", "tried", "why"])

    def count(self, said, refusals, words):
        for item in said:
            words[item[0]] = words.get(item[0], 0) + 1
            if item[0] == "refused":
                refusals[item[1]] = refusals.get(item[1], 0) + 1
            if item[0] == "tried":
                self.count(item[1], refusals, words)

    def test_a_log_is_a_script(self):
        longest = 0
        for store, script, _ in drawn(60, 25):
            engine, again = Engine(store), Engine(store)
            play(engine, script)
            longest = max(longest, len(engine.log()))
            said = play(again, engine.log())
            self.assertFalse([item for item in said if item[0] == "refused"])
            for name in ("given", "closed", "books", "views", "whole", "log"):
                self.assertEqual(getattr(engine, name)(), getattr(again, name)())
            self.assertEqual([engine.seen(view) for view in engine.views()], [again.seen(view) for view in again.views()])
        self.assertGreater(longest, 8)

    def test_each_command(self):
        engine = Engine(ROW)
        denied = Book([STEP, DRY])
        script = [
            ("put", "w", WAYS), ("put", "w", WAYS), ("put", "v", denied), ("put", "v", Book([STEP])), ("tell", ("road", "c", "a")),
            ("tell", AB), ("take", ("road", "b", "b")), ("view", "round", ROUND), ("view", "round", TWO), ("seen", "round"), ("seen", "w"),
            ("ask", THERE), ("ask", ("way", "X", "X")), ("ask", ("sun",)), ("why", AB), ("why", ("way", "a", "b")), ("why", ("sun",)),
            ("undo",), ("redo",), ("redo",), ("exchange", "w", denied), ("exchange", "z", denied), ("exchange", "w", Book([STEP])),
            ("unview", "round"), ("unview", "round"), ("take", AB), ("drop", "w"), ("drop", "w"), ("try", []), ("put", "i", Book([DRY])),
        ]
        ways = [("way", one, other) for one in "abc" for other in "abc"]
        said = play(engine, script)
        self.assertEqual(said, [
            ("came", [ways[1], ways[2], ways[5]], []), ("refused", "TakenName"), ("refused", "NotPlain"), ("refused", "TakenName"),
            ("came", [("road", "c", "a"), ways[0], *ways[3:5], *ways[6:]], []), ("refused", "TakenName"), ("refused", "UnknownName"),
            ("done",), ("refused", "TakenName"), ("seen", [("a",), ("b",), ("c",)]), ("refused", "UnknownName"), ("told", ways[:3]),
            ("told", [ways[0], ways[4], ways[8]]), ("told", []), ("why", ("given", AB)),
            ("why", ("by", "step", ways[1], [("given", AB)])), ("why", None), ("done",), ("done",), ("refused", "NothingToRedo"),
            ("refused", "NotPlain"), ("refused", "UnknownName"), ("came", [], [ways[0], *ways[2:5], *ways[7:]]), ("done",),
            ("refused", "UnknownName"), ("came", [], [AB, ways[1]]), ("came", [], [ways[5], ways[6]]), ("refused", "UnknownName"),
            ("tried", []), ("refused", "NotPlain"),
        ])
        self.assertEqual(play(Engine([]), [("undo",), ("redo",)]), [("refused", "NothingToUndo"), ("refused", "NothingToRedo")])
        self.assertEqual(play(Engine([]), []), [])

    def test_tries(self):
        engine = Engine([])
        engine.tell(AB)
        deep = [("tell", BC), ("try", [("undo",), ("undo",), ("undo",), ("ask", ("road", "X", "Y")), ("redo",)]), ("put", "w", WAYS)]
        said = play(engine, [("try", deep + [("try", [("drop", "w"), ("undo",)]), ("ask", THERE)]), ("redo",), ("ask", THERE)])
        way = ("way", "a", "b")
        self.assertEqual(said, [
            ("tried", [
                ("came", [BC], []), ("tried", [("done",), ("done",), ("refused", "NothingToUndo"), ("told", []), ("done",)]),
                ("came", [way, ("way", "a", "c"), ("way", "b", "c")], []),
                ("tried", [("came", [], [way, ("way", "a", "c"), ("way", "b", "c")]), ("done",)]), ("told", [way, ("way", "a", "c")])]),
            ("refused", "NothingToRedo"), ("told", [])])
        self.assertEqual([engine.given(), engine.log(), engine.books()], [[AB], [("tell", AB)], []])
        four = [("tell", ("p",))]
        for _ in range(4):
            four = [("try", four)]
        self.assertEqual(play(engine, four), [("tried", [("tried", [("tried", [("tried", [("came", [("p",)], [])])])])])])

    def test_papers_of_why(self):
        engine = Engine(ROW)
        engine.put_book("w", WAYS + Book([LONG]))
        paper = play(engine, [("why", ("way", "a", "c"))])[0][1]
        self.assertTrue(check_paper(engine.whole(), ROW, ("way", "a", "c"), paper))
        self.assertEqual(paper_height(paper), 2)

    def test_nothing_is_played_of_what_is_no_script(self):
        engine = Engine([])
        for error, thing in WRONG["script"]:
            refused(self, error, thing, play, engine, thing)
            refused(self, error, thing, play, script=thing, engine=engine)
        self.assertEqual([engine.given(), engine.log()], [[], []])
        late = [("tell", AB)] * 3 + [("try", [("tell", ("way", "X"))])]
        refused(self, InvalidScript, late, play, engine, late)
        self.assertEqual(engine.given(), [])

    def test_what_is_passed_stays_and_what_is_returned_is_new(self):
        inner = [("ask", THERE), ("seen", "v")]
        script = [("put", "w", WAYS), ("view", "v", ROUND), ("ask", THERE), ("try", inner), ("seen", "v"), ("why", AB), ("tell", BC)]
        kept = [list(script), list(inner)]
        engine = Engine([AB])
        for _ in range(2):
            said = play(engine, script)
            self.assertEqual([script, inner], kept)
            for item in said:
                for thing in item[1:]:
                    if isinstance(thing, list):
                        thing.append(1)
            again = engine.copy()
            self.assertEqual(play(again, inner), [("told", again.closed()[2:2 + len(again.closed()) - 3]), ("seen", [])])
            script = script[2:6]
            kept = [list(script), list(inner)]


class Texts(unittest.TestCase):
    def test_drawn_scripts_are_read_back(self):
        for _, script, _ in drawn(120, 8):
            lines = [line for command in script for line in command_lines(command)]
            text = "\n".join(lines)
            self.assertEqual([script_text(script), script_text(script=script)], [text, text])
            self.assertEqual([read_script(text), read_script(text=text)], [script, script])

    def test_each_command(self):
        view = Question(["X", "X"], [("road", "X", "Y"), ("rain",)], [("X", "Y"), ("Y", "a")])
        script = [
            ("tell", ("rain",)), ("take", AB), ("put", "put", Book([DRY, FAR])), ("put", "w", Book([])), ("exchange", "end", Book([STEP])),
            ("drop", "try"), ("view", "if", view), ("view", "v", Question([], [])), ("view", "w", Question([], [("not",)])), ("unview", "w"),
            ("undo",), ("redo",), ("ask", ("way", "X", "a", "X")), ("ask", ("rain",)), ("why", ("way", "a")), ("seen", "end"), ("try", []),
            ("try", [("try", [("put", "w", Book([STEP])), ("undo",)]), ("tell", ("end",))]),
        ]
        text = "\n".join([
            "tell rain", "take road(a, b)", "put put", "  dry: dry(X) if hut(X), not rain", "  far: way(X, Z) if way(X, Y), way(Y, Z)", "end",
            "put w", "end", "exchange end", "  step: way(X, Y) if road(X, Y)", "end", "drop try",
            "view if: (X, X) if road(X, Y), rain, X unlike Y, Y unlike a", "view v: ()", "view w: () if not", "unview w", "undo", "redo",
            "ask way(X, a, X)", "ask rain", "why way(a)", "seen end", "try", "end", "try", "  try", "    put w",
            "      step: way(X, Y) if road(X, Y)", "    end", "    undo", "  end", "  tell end", "end",
        ])
        self.assertEqual(script_text(script), text)
        self.assertEqual(read_script(text), script)
        self.assertEqual([script_text([]), read_script("")], ["", []])
        for command in script:
            self.assertEqual(read_script(script_text([command])), [command])

    def test_texts_with_something_exchanged_put_in_or_left_out(self):
        wrong = right = 0
        for _, script, chance in drawn(25, 4):
            text = script_text(script)
            for _ in range(60):
                at = chance.draw.randint(0, len(text))
                way = chance.draw.random()
                if way < 0.5:
                    bent = text[:at] + chance.draw.choice(["", " ", "  ", "a", "X", "(", ")", ",", ":", "\n", "end", "\nend", "\t"]) + text[at:]
                elif way < 0.7:
                    bent = text[:at] + text[at + chance.draw.randint(1, 3):]
                else:
                    lines = text.split("\n")
                    one, other = chance.draw.randrange(len(lines)), chance.draw.randrange(len(lines))
                    lines.insert(other, lines[one] if way < 0.8 else lines.pop(one))
                    bent = "\n".join(lines if way < 0.95 else lines[:-1])
                try:
                    again = read_script(bent)
                except InvalidText as error:
                    self.assertIs(error.value, bent)
                    wrong += 1
                else:
                    self.assertEqual("\n".join(line for command in again for line in command_lines(command)), bent)
                    right += 1
        self.assertTrue(wrong > 500 and right > 100, (wrong, right))

    def test_texts_of_no_script(self):
        texts = """tell|tell |tell way(X)|tell way(a,b)|tell way(a, b) | tell rain|tell rain\n|\n|take X|put w|put w\nend\nend|put w\n end|
            put w\n  step\nend|put w\n step: way if road\nend|put w\n  r: p\n  r: q\nend|put w\n  \nend|put W\nend|put\nend|put \nend|end|try|try\n|
            try\nend\n|try\n undo\nend|try\n  undo\n  end|try\n  undo|try \nend|try a\nend|try\n    undo\nend|try\n  undo\nEnd|drop|drop |
            drop W|drop w w|view v|view v: |view v:() if p|view v: X|view v: (X)|view v: (X) if p(Y)|view v: (x) if p(x)|view v: (X,X) if p(X)|
            view v: () if not p|view v: () if |view v: () if p, X unlike X|view v: ( ) if p|view : ()|view V: ()|view v: (X)) if p(X)|
            view v: () if p(X), X unlike Y, X unlike a|undo |undo undo|undo\n\nredo|undone|ask|ask |ask X|ask way(X|ask way()|ask way(X, Y, Z, U)|
            why|why way(X)|seen|seen V|unview|unview |guard back|tell rain\r|Tell rain""".split("|")
        for text in [text.strip(" ") if text.startswith("\n            ") else text for text in texts]:
            bent = text[13:] if text.startswith("\n            ") else text
            if bent == "":
                continue
            refused(self, InvalidText, bent, read_script, bent)
            refused(self, InvalidText, bent, read_script, text=bent)
        for thing in but(ODD, of(str)) + [["tell rain"], b"undo", ("undo",)]:
            refused(self, InvalidText, thing, read_script, thing)
        refuses_wrong(self, script_text, ["script"], ["script"], [[]])
        deep = "\n".join("  " * depth + "try" for depth in range(60))
        refused(self, InvalidText, deep, read_script, deep)

    def test_what_was_said(self):
        for store, script, _ in drawn(80, 10):
            said = play(Engine(store), script)
            text = "\n".join(line for item in said for line in item_lines(item))
            self.assertEqual([said_text(said), said_text(said=said)], [text, text])
        engine = Engine(ROW)
        said = play(engine, [
            ("put", "w", WAYS), ("exchange", "w", Book([LONG])), ("exchange", "w", Book([FAR, STEP])), ("tell", ("way", "a", "b")),
            ("put", "z", Book([Rule("r", ("rain",), [("way", "a", "c")]), Rule("s", ("sun",), [])])), ("why", ("rain",)), ("why", AB), ("why", ("sun",)),
            ("why", ("p",)), ("view", "v", Question([], [("rain",)])), ("seen", "v"), ("view", "u", Question(["X", "Y"], [("road", "X", "Y")])),
            ("seen", "u"), ("view", "t", ROUND), ("seen", "t"), ("ask", ("way", "X", "Y")), ("ask", ("p",)), ("exchange", "w", Book([LONG])),
            ("try", [("undo",), ("try", []), ("try", [("undo",), ("redo",), ("redo",), ("take", ("p",))])]), ("drop", "v"),
            ("exchange", "z", Book([Rule("r", ("moon",), [])])),
        ])
        self.assertEqual(said_text(said).split("\n"), [
            "came way(a, b), way(a, c), way(b, c)", "went way(a, b), way(a, c), way(b, c)", "came way(a, b), way(a, c), way(b, c)", "nothing new",
            "came rain, sun", "why rain (3)", "why road(a, b) (0)", "why sun (1)", "why none", "done", "seen ()", "done", "seen (a, b), (b, c)",
            "done", "seen none", "told way(a, b), way(a, c), way(b, c)", "told none", "went rain, way(a, c), way(b, c)", "tried", "  done", "  tried",
            "  tried", "    done", "    done", "    done", "    refused UnknownName", "refused UnknownName", "came moon; went sun",
        ])
        self.assertEqual([said_text([]), said_text([("tried", [])])], ["", "tried"])

    def test_papers_that_are_few_objects_for_very_many_lines(self):
        rules = [Rule("r" + letter, (letter,), [(before,)] * 4) for before, letter in zip("abcdefghijk", "bcdefghijkl")]
        engine = Engine([("a",)])
        engine.put_book("w", Book(rules))
        self.assertEqual(said_text(play(engine, [("why", ("l",))])), "why l (11)")


class Ends(unittest.TestCase):
    """[154]: judged by playing on all stores of the facts that commands tell and take."""

    def books(self, chance):
        one = chance.book(2, 2)
        rules = [one.rules()[0], STEP]
        return [one, relabelled(one, ["j", "n", "o"]), Book(rules), Book(rules[::-1]), Book([Rule("k", STEP.head, STEP.told)] + rules[:1])]

    def views(self, chance):
        one = chance.question(2)
        return [one, Question(one.columns, one.told, one.pairs), Question(one.columns, one.told + one.told[:1], one.pairs), ROUND]

    def end(self, script, store):
        engine = Engine(store)
        play(engine, script)
        return engine

    def same(self, script, other, store):
        one, two = self.end(script, store), self.end(other, store)
        if [one.given(), one.books(), one.views()] != [two.given(), two.books(), two.views()]:
            return False
        if not all(one.question(name) == two.question(name) for name in one.views()):
            return False
        return all(alike(one.book(name), two.book(name)) for name in one.books())

    def starts(self, *scripts):
        facts = set()
        waiting = list(scripts)
        while waiting:
            for command in waiting.pop():
                if command[0] in ("tell", "take"):
                    facts.add(command[1])
                elif command[0] == "try":
                    waiting.append(command[1])
        return all_subsets(sorted(facts))

    def scripts(self, many, length, kinds=(("p", 1), ("s", 0))):
        for seed in range(many):
            chance = Chance(seed, names="a", kinds=kinds, letters="XY")
            books, views = self.books(chance)[:chance.draw.randint(1, 5)], self.views(chance)
            script = drawn_script(chance, length, 1, True, books, views)
            other = list(script)
            for _ in range(chance.draw.randint(1, 3)):
                at = chance.draw.randint(0, len(other))
                way = chance.draw.random()
                more = [("undo",)] if way < 0.2 else drawn_script(chance, 1, 1, True, books, views) if way < 0.6 else []
                other = other[:at] + more + other[at + (1 if way < 0.8 else 0):]
                if way >= 0.8 and len(other) > 1:
                    at = chance.draw.randrange(len(other) - 1)
                    other[at], other[at + 1] = other[at + 1], other[at]
            yield script, other

    def test_drawn_scripts(self):
        found = {"same": 0, "parted": 0, "on some": 0}
        for script, other in self.scripts(150, 7):
            starts = self.starts(script, other)
            unlike = [store for store in starts if not self.same(script, other, store)]
            self.assertIs(same_end(script, other), unlike == [])
            store = parting_start(script, other)
            if store is None:
                self.assertEqual(unlike, [])
            else:
                self.assertIn(sorted(store), unlike)
                self.assertFalse([less for less in without_one(store) if sorted(less) in unlike])
            self.assertEqual(store is None, parting_start(other=script, one=other) is None)
            found["same" if not unlike else "parted" if len(unlike) == len(starts) else "on some"] += 1
        self.assertTrue(min(found.values()) > 15, found)

    def test_trimmed(self):
        shorter = whole = 0
        for script, _ in self.scripts(60, 8):
            kept = list(script)
            starts = self.starts(script)
            for at in reversed(range(len(script))):
                less = kept[:at] + kept[at + 1:]
                if all(self.same(script, less, store) for store in starts):
                    kept = less
            self.assertEqual(trimmed(script), kept)
            shorter, whole = shorter + (len(kept) < len(script)), whole + (len(kept) > 2)
        self.assertTrue(shorter > 40 and whole > 20, (shorter, whole))

    def test_undo_and_redo_at_the_beginning_and_the_end(self):
        p, q = ("tell", ("p",)), ("tell", ("q",))
        undo, redo = ("undo",), ("redo",)
        for one, other in (
            ([undo, redo, p], [p]), ([p, undo, redo], [p]), ([p, undo, p], [p]), ([p, q, undo, redo], [q, p]),
            ([("take", ("p",)), p], [p]), ([p, undo, redo, redo], [p, redo]), ([], [undo]), ([("try", [p, undo, undo])], []),
            ([p, ("try", [undo]), q], [p, q]),
        ):
            self.assertEqual([same_end(one, other), parting_start(one, other)], [all(self.same(one, other, s) for s in self.starts(one, other)), None])
        self.assertEqual(parting_start([p, undo, q, redo], [p, q]), [])
        # Where the fact is given, nothing is left to undo.
        self.assertEqual(parting_start([q, p, undo], [q]), [("p",)])
        self.assertEqual(parting_start([p, undo], []), None)
        self.assertEqual(parting_start([("take", ("p",)), ("take", ("q",)), undo], []), [("p",), ("q",)])
        self.assertEqual(trimmed([redo, p, undo, redo, ("try", [q, undo]), redo, ("ask", ("p",)), q, redo]), [p, redo, q])

    def test_books_and_views_under_their_names(self):
        one, other = [("put", "w", WAYS)], [("put", "w", Book([FAR, STEP]))]
        named = Book([Rule("x", STEP.head, STEP.told), Rule("y", FAR.head, FAR.told), Rule("z", LONG.head, LONG.told)])
        self.assertTrue(same_end(one, other) and same_end(one, [("put", "w", named)]))
        self.assertTrue(same_end(one, [("put", "w", Book([])), ("exchange", "w", named)]))
        self.assertEqual([same_end(one, [("put", "v", WAYS)]), same_end(one, [("put", "w", Book([STEP, LONG]))]), same_end(one, [])], [False] * 3)
        self.assertTrue(same_end([("put", "w", Book([DRY]))], []))
        twice = Question(ROUND.columns, ROUND.told * 2)
        self.assertFalse(same_end([("view", "v", ROUND)], [("view", "v", twice)]))
        self.assertTrue(same_end([("view", "v", ROUND), ("view", "v", twice)], [("view", "v", Question(["X"], [("way", "X", "X")], []))]))
        self.assertFalse(same_end([("view", "v", ROUND)], [("view", "u", ROUND)]))
        # A label that is there is in the way of another book.
        first = [("put", "a", Book([STEP]))]
        self.assertFalse(same_end(first + [("put", "b", Book([LONG]))], first + [("put", "b", Book([Rule("step", LONG.head, LONG.told)]))]))
        self.assertTrue(same_end(first + [("put", "b", WAYS)], first))
        # What is left out first is the view, so taking it out again is refused.
        more = [("exchange", "w", named), ("view", "v", TWO), ("seen", "v"), ("unview", "v")]
        self.assertEqual(trimmed(one + more), [("put", "w", WAYS), ("unview", "v")])
        self.assertEqual(trimmed(one + [("exchange", "w", Book([])), ("exchange", "w", WAYS)]), one + [("exchange", "w", WAYS)])

    def test_books_that_are_alike_on_some_stores_alone(self):
        # Behind an undo that takes back what is told, or else what was exchanged, stands the one book or the other.
        alike_one, other = Book([FAR, STEP]), Book([STEP])
        for first, second, store in ((alike_one, other, [("p",)]), (other, alike_one, [])):
            one, two = [("put", "w", WAYS)], [("put", "w", second), ("exchange", "w", first), ("tell", ("p",)), ("undo",)]
            self.assertEqual([parting_start(one, two), parting_start(two, one)], [store, store])
        more = [("put", "w", other), ("exchange", "w", alike_one), ("tell", ("p",)), ("undo",)]
        self.assertEqual(trimmed(more), more)

    def test_what_is_undone_behind_what_was_made_again(self):
        p, q, undo, redo = ("tell", ("p",)), ("tell", ("q",)), ("undo",), ("redo",)
        for one, other in (([p, undo, redo, undo], [p, undo]), ([p, q, undo, undo, redo, redo, undo], [p, q, undo]), ([p, q, undo, undo, redo, redo, undo, redo], [p, q])):
            self.assertEqual(parting_start(one, other), None)
        self.assertEqual(parting_start([p, q, undo, redo, undo], [p, q]), [])
        kept = [p, q]
        trimmed(kept).append(1)
        self.assertEqual(kept, [p, q])

    def test_six_facts_and_long_scripts(self):
        facts = [("p", name) for name in "abcdef"]
        script = [("tell", fact) for fact in facts] + [("take", fact) for fact in facts]
        self.assertEqual(trimmed(script), script[6:])
        for order in list(permutations(script[6:]))[::90]:
            self.assertTrue(same_end(script, list(order)))
        self.assertEqual(parting_start(script, script[:6] + script[7:]), [])
        many = (script * 4)[:40]
        self.assertIsNone(parting_start(many, many[:39] + [("ask", ("p", "X"))] + many[39:]))
        self.assertEqual(parting_start(many, many[:39]), [])

    def test_wrong_arguments(self):
        for call in (same_end, parting_start):
            refuses_wrong(self, call, ["one", "other"], ["script", "script"], [[("undo",)], []])
        refuses_wrong(self, trimmed, ["script"], ["script"], [[]])
        script = [("tell", AB), ("try", [("undo",)]), ("undo",)]
        trimmed(script).append(1)
        store = parting_start([("take", AB)], script[2:])
        store.append(1)
        self.assertEqual([trimmed(script=script), parting_start([("take", AB)], [("undo",)]), len(script)], [[("undo",)], [AB], 3])
        self.assertGreater(len(NO_COMMANDS), 40)


if __name__ == "__main__":
    unittest.main()
