"""[1], [2] and [5] over the whole program: each function with samples, and each error class raised by some call."""

import copy
import importlib
import unittest

from neverapart import errors
from neverapart.apart import parting_script
from neverapart.books import parting, reasons
from neverapart.branches import Tree, behind, conflicts, meeting
from neverapart.chances import cases, chance
from neverapart.deeds import Deed
from neverapart.denial import account, layering, meaning, meaning_by
from neverapart.firing import ends, fire, run
from neverapart.goals import form
from neverapart.guarded import GuardedEngine, guarded_again
from neverapart.guarding import leak, parting_guards
from neverapart.guards import Guard
from neverapart.lapses import stands_at
from neverapart.live import Engine, replayed
from neverapart.lots import state
from neverapart.making import Maker, endless, grown
from neverapart.papers import why
from neverapart.questions import answers
from neverapart.rules import Book, Question, Rule
from neverapart.scripts import play
from neverapart.texts import book_text, fact_text, read_fact, renamed, rule_text, store_text
from neverapart.keeping import Net
from plainly import BACK, DRY, FAR, GO, LONG, OWN, ROUND, ROW, STEP, TIRE, TOWN, TWIN, TWO, WAYS
from test_general import INTERFACE

AC, CA = ("way", "a", "c"), ("road", "c", "a")
BOTH = WAYS + Book([LONG])
LOST = Book([STEP, Rule("lost", ("lost", "X"), [("hut", "X")], None, [("way", "X", "X")])])
EDITIONS = [(ROW, {"a": Book([STEP]), "b": Book([FAR])}, {"v": ROUND}), ([*ROW, CA], {"b": Book([LONG]), "a": Book([STEP])}, {"v": ROUND, "w": TWO})]
BARE = ([], {}, {})
SCRIPT = [("put", "w", WAYS), ("tell", CA), ("view", "v", ROUND), ("try", [("take", ROW[0]), ("ask", ("way", "X", "Y"))]), ("why", AC), ("undo",)]
LEASED = [(fact, last) for fact, last in zip(TOWN, (5, None, 2, -1))]
MAYBE = [(fact, odds) for fact, odds in zip(TOWN, ((1, 2), (2, 3), (1, 4), (1, 1)))]
AT = TOWN + [("at", "a")]
CALL = Deed("call", 0, [("hut", "X")], [], [("at", "X")])
ONE = Guard("one", [("at", "X"), ("at", "Y")], [("X", "Y")])
SON = Maker("son", [("man", "Y"), ("son", "Y", "X")], ("man", "X"))
# What is passed for a parameter, unless a module or a function needs something else.
SAMPLES = {
    "book": WAYS, "store": TOWN, "fact": AC, "could": [CA, ("hut", "a")], "taken": [("fact", ROW[0])], "put": [("hut", "a")], "rule": LONG, "names": ["a", "b"],
    "one": WAYS, "other": Book([STEP, LONG]), "question": TWO, "goal": ("way", "a", "X"), "call": ("road", "x", "A"), "deeds": [GO, TIRE], "most": 9, "many": 9,
    "label": "go", "match": ("a", "b"), "top": Book([Rule("top", ("top",), [("way", "X", "X")], None, [("rain",)])]), "layers": None, "guards": [BACK, TWIN],
    "guard": TWIN, "makers": [OWN], "maker": OWN, "dated": LEASED, "moment": 3, "chanced": MAYBE, "facts": [AC, ROW[0]], "known": [("way", "a", "b")], "script": SCRIPT,
    "edition": EDITIONS[0], "log": [("tell", CA), ("tell", ("rain",))], "position": 1, "base": BARE, "engine": None, "said": [("told", ROW), ("done",)], "value": None,
    "text": "way(a, c)", "thing": TOWN, "told": None,
}
OWN_SAMPLES = {
    "texts": {"names": {"a": "b", "b": "a"}, "rule": DRY}, "questions": {"one": TWO, "other": ROUND}, "branches": {"one": EDITIONS[0], "other": EDITIONS[1], "base": EDITIONS[0]},
    "apart": {"one": EDITIONS[0], "other": EDITIONS[1]}, "disturb": {"one": GO, "other": TIRE}, "firing": {"store": AT}, "scripts": {"one": SCRIPT, "other": SCRIPT[1:]},
    "denial": {"book": LOST, "layers": [[("hut", 1), ("road", 2)], [("way", 2)], [("lost", 1)]]}, "making": {"store": [("man", "a"), ("man", "c")], "question": Question(["X"], [("man", "X")])},
    "guarding": {"deeds": [GO, CALL], "guards": [ONE]},
}
FUNCTION_SAMPLES = {
    "read_rule": {"text": "dry: dry(X) if hut(X), not rain"}, "read_book": {"text": "a: p\nb: q(X) if p(X)"}, "read_store": {"text": "hut(c)\nroad(a, b)"}, "weights": {"deeds": [TIRE]},
    "mix": {"deeds": [GO]}, "stands_on": {"book": WAYS}, "endless": {"makers": [SON, OWN]}, "weaves": {"edition": BARE, "one": [("tell", CA)], "other": [("tell", CA)]},
    "guard_follows": {"guards": [BACK]}, "guards_alike": {"one": [BACK], "other": [TWIN]}, "parting_guards": {"one": [BACK], "other": [TWIN]}, "lean_guards": {"guards": [BACK, TWIN]},
    "read_script": {"text": "try\n  undo\nend"}, "steps": {"base": None}, "same_under_guards": {"one": TWO, "other": ROUND}, "surely": {"question": Question(["X"], [("hut", "X")])},
}


def samples(module, name):
    own = {**OWN_SAMPLES.get(module, {}), **FUNCTION_SAMPLES.get(name, {})}
    return {part: own.get(part, SAMPLES[part]) for part in INTERFACE[module][name]}


def turned(thing, key):
    """The same store, dated store, chanced store or edition with its things in another order."""
    if key in ("store", "could", "put", "dated", "chanced", "facts", "known", "thing"):
        return thing[::-1]
    if isinstance(thing, tuple) and len(thing) == 3 and isinstance(thing[1], dict):
        return (list(thing[0]), dict(reversed(thing[1].items())), dict(reversed(thing[2].items())))
    return thing


def spoil(thing):
    """Changes all lists and dictionaries within what was returned."""
    if isinstance(thing, (list, tuple)):
        for one in list(thing):
            spoil(one)
    if isinstance(thing, dict):
        for one in list(thing.values()):
            spoil(one)
        thing.clear()
    if isinstance(thing, list):
        thing.append("spoilt")


class Functions(unittest.TestCase):
    def each(self):
        for module, names in INTERFACE.items():
            for name in names:
                if not name[0].isupper() and name not in ("play", "edition", "replayed", "guarded_again", "engine_of"):
                    yield module, name, getattr(importlib.import_module(f"neverapart.{module}"), name)

    def test_equal_calls_return_equal_results_and_nothing_is_shared(self):
        many = 0
        for module, name, call in self.each():
            with self.subTest(module=module, name=name):
                named = samples(module, name)
                kept = copy.deepcopy(named)
                first = call(*named.values())
                result = copy.deepcopy(first)
                self.assertEqual(list(named), list(kept))
                self.assertEqual(named, kept)
                spoil(first)
                self.assertEqual(named, kept)
                self.assertEqual(call(**dict(reversed(list(copy.deepcopy(named).items())))), result)
                self.assertEqual(call(*[turned(thing, key) for key, thing in named.items()]), result)
                self.assertEqual(type(call(*named.values())), type(result))
                many += 1
        self.assertGreater(many, 120)

    def test_stores_matches_and_answers_ascend_without_doubles(self):
        for name, module in (
            ("matches", "matching"), ("matches_with", "matching"), ("closed", "closing"), ("answers", "questions"), ("answers_under", "questions"), ("meaning", "denial"),
            ("instances", "goals"), ("asked", "goals"), ("looks", "goals"), ("matters", "goals"), ("used", "goals"), ("grown", "making"), ("tellable", "guards"),
            ("surely", "guards"), ("perhaps", "guards"), ("stands_at", "lapses"), ("closed_at", "lapses"), ("critical", "chances"),
        ):
            call = getattr(importlib.import_module(f"neverapart.{module}"), name)
            result = call(*[turned(thing, key) for key, thing in samples(module, name).items()])
            self.assertEqual(result, sorted(set(result)), name)


class Errors(unittest.TestCase):
    """Each class of section 2, raised by some call."""

    def engine(self):
        engine = Engine(ROW)
        engine.put_book("w", WAYS)
        return engine

    def test_each_class_is_raised(self):
        denying = Book([STEP, DRY])
        ring = Book([Rule("r", ("p",), [], None, [("p",)])])
        torn = ([], {"w": Book([STEP])}, {}), ([], {"w": Book([FAR])}, {})
        calls = [
            ("InvalidFact", None, lambda: fact_text(None)), ("InvalidStore", {}, lambda: store_text({})), ("InvalidRule", 7, lambda: rule_text(7)),
            ("InvalidRule", (), lambda: Rule("r", (), [])), ("InvalidRule", [], lambda: Maker("m", [], ("p",))), ("InvalidBook", [], lambda: book_text([])),
            ("InvalidBook", [OWN, OWN], lambda: grown([OWN, OWN], [], 1)), ("InvalidQuestion", "X", lambda: Question("X", [])), ("InvalidDeed", [GO, GO], lambda: run([GO, GO], [], 1)),
            ("InvalidDeed", "a", lambda: Deed("d", 0, [], "a", [])), ("InvalidGoal", ["way"], lambda: form(["way"])), ("InvalidScript", [("undo", 1)], lambda: play(self.engine(), [("undo", 1)])),
            ("InvalidEdition", ([], {}), lambda: behind(([], {}), [])), ("InvalidGuard", [BACK, BACK], lambda: parting_guards(WAYS, [BACK, BACK], [])),
            ("InvalidGuard", (), lambda: Guard("g", ())), ("InvalidDates", [AC], lambda: stands_at([AC], 0)), ("InvalidChances", [(AC, (2, 1))], lambda: chance(WAYS, [(AC, (2, 1))], AC)),
            ("InvalidLot", [None], lambda: state(WAYS, ROW, AC, [None], [])), ("InvalidNames", {"a": "b"}, lambda: renamed(AC, {"a": "b"})), ("InvalidLayers", [], lambda: meaning_by(WAYS, ROW, [])),
            ("InvalidName", "W", lambda: self.engine().put_book("W", WAYS)), ("InvalidLog", ["tell"], lambda: replayed([], ["tell"])), ("InvalidText", "way(", lambda: read_fact("way(")),
            ("InvalidNumber", True, lambda: stands_at([], True)), ("UnknownName", "v", lambda: self.engine().seen("v")), ("UnknownName", "b", lambda: Tree([]).log("b")),
            ("TakenName", ROW[0], lambda: self.engine().tell(ROW[0])), ("TakenName", "step", lambda: self.engine().put_book("z", Book([LONG, STEP]))),
            ("TakenName", "back", lambda: GuardedEngine([], [BACK]).put_guard(Guard("back", []))), ("TakenName", "step", lambda: Net(WAYS).add(STEP)),
            ("NotPlain", denying, lambda: why(denying, ROW, AC)), ("NotFiring", ("go", ()), lambda: fire([GO], [], "go", ())), ("Unsound", [("back", ("a",))], lambda: GuardedEngine([("way", "a", "a")], [BACK])),
        ]
        for name, value, call in calls:
            self.raised(name, "value", value, call)
        self.raised("NotLayered", "ring", [("p", 0)], lambda: meaning(ring, []))
        self.raised("TooMany", "most", 1, lambda: ends([GO], AT, 1))
        self.raised("TooMany", "most", 3, lambda: grown([SON], [("man", "a")], 3))
        self.raised("NotMeeting", "conflicts", [("book", "w")], lambda: meeting(BARE, *torn))
        self.raised("NothingToUndo", None, None, lambda: Engine([]).undo())
        self.raised("NothingToRedo", None, None, lambda: guarded_again([], [], []).redo())
        names = {name for name, _, _ in calls} | {"NotLayered", "TooMany", "NotMeeting", "NothingToUndo", "NothingToRedo"}
        self.assertEqual(names, {name for name, thing in vars(errors).items() if isinstance(thing, type)} - {"NeverError"})

    def raised(self, name, field, value, call):
        with self.assertRaises(errors.NeverError) as caught:
            call()
        self.assertIs(type(caught.exception), getattr(errors, name))
        self.assertEqual(vars(caught.exception), {} if field is None else {field: value})


class Anything(unittest.TestCase):
    def test_what_is_returned_may_be_passed_again(self):
        store, fact = parting(WAYS, Book([STEP, LONG]))
        self.assertIn(fact, meaning(WAYS, store) + meaning(Book([STEP, LONG]), store))
        self.assertEqual(answers(TWO, grown([OWN], TOWN, 5)), answers(TWO, TOWN))
        self.assertIsNotNone(reasons(WAYS, FAR))
        self.assertEqual(conflicts(BARE, EDITIONS[0], meeting(BARE, EDITIONS[0], EDITIONS[0])), [])
        self.assertEqual([layering(LOST)[-1], len(account(LOST, TOWN))], [[("lost", 1)], len(meaning(LOST, TOWN))])
        script = parting_script(*EDITIONS)
        self.assertNotEqual(play(Engine([]), script * 2), [])
        self.assertIsNotNone(leak([GO, CALL], [ONE]))
        self.assertEqual([len(endless([SON, OWN])), cases(WAYS, [], AC)], [2, ("no",)])


if __name__ == "__main__":
    unittest.main()
