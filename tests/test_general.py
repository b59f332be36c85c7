"""[1], [2], [3] and the interface: where names stand, what they take, and that limits alone raise no error."""

import importlib
import inspect
import unittest

from neverapart.books import follows, slim
from neverapart.branches import Tree, weaves
from neverapart.chances import chance
from neverapart.closing import closed
from neverapart.guarding import lean_guards
from neverapart.guards import Guard, fewest
from neverapart.lapses import cuts_short, how_long
from neverapart.live import Engine
from neverapart.making import Maker, grown
from neverapart.matching import best_order, matches
from neverapart.papers import count_papers
from neverapart.rules import Book, Question, Rule
from neverapart.scripts import play, read_script, script_text

INTERFACE = {
    "rules": {
        "Rule": ["label", "head", "told", "pairs=None", "denied=None"],
        "Book": ["rules"],
        "Question": ["columns", "told", "pairs=None"],
    },
    "texts": {
        "fact_text": ["fact"], "rule_text": ["rule"], "book_text": ["book"], "store_text": ["store"],
        "read_fact": ["text"], "read_rule": ["text"], "read_book": ["text"], "read_store": ["text"],
        "renamed": ["thing", "names"],
    },
    "matching": {
        "variables": ["question"], "matches": ["question", "store"], "count_matches": ["question", "store"],
        "matches_with": ["question", "store", "fact"], "partials": ["question", "store"], "best_order": ["question", "store"],
    },
    "closing": {name: ["book", "store"] for name in ("closed", "is_closed", "breach", "rounds")},
    "papers": {
        **{name: ["book", "store", "fact"] for name in ("why", "smallest", "least_height", "least_size", "count_papers")},
        "check_paper": ["book", "store", "fact", "value"],
    },
    "lots": {
        "supports": ["book", "store", "fact"], "cuts": ["book", "store", "fact"], "adds": ["book", "store", "could", "fact"],
        "state": ["book", "store", "fact", "taken", "put"],
    },
    "books": {
        "bodies": ["rule", "names"], "follows": ["book", "rule"], "reasons": ["book", "rule"],
        **{name: ["one", "other"] for name in ("within", "alike", "parting")}, "check_parting": ["one", "other", "value"],
        **{name: ["book"] for name in ("needless", "lean", "slim")}, "check_reasons": ["book", "rule", "value"],
    },
    "questions": {
        "answers": ["question", "store"], "answers_under": ["book", "question", "store"], "same_answers": ["one", "other"],
        "parting_store": ["one", "other"], "same_under": ["book", "one", "other"], "core": ["question"],
    },
    "denial": {
        "layering": ["book"], "check_layering": ["book", "value"], "meaning": ["book", "store"],
        "meaning_by": ["book", "store", "layers"], "account": ["book", "store"], "check_account": ["book", "store", "value"],
        "stands_on": ["top", "book"],
    },
    "deeds": {"Deed": ["label", "rank", "told", "takes", "puts", "pairs=None", "denied=None"]},
    "disturb": {"disturb": ["one", "other"]},
    "firing": {
        "can_fire": ["deeds", "store"], "fire": ["deeds", "store", "label", "match"], "run": ["deeds", "store", "many"],
        **{name: ["deeds", "store", "most"] for name in ("ends", "parted", "ring")},
    },
    "weights": {"weights": ["deeds"], "mix": ["deeds"]},
    "live": {"Engine": ["store"], "replayed": ["store", "log"]},
    "keeping": {"Net": ["book"]},
    "goals": {
        "instances": ["goal", "store"], "form": ["goal"], "can_call": ["book", "goal"], "kinds_called": ["book", "goal"],
        **{name: ["book", "goal", "store"] for name in ("asked", "calls", "looks", "matters", "used")},
        "calling_store": ["book", "goal", "call"],
    },
    "scripts": {
        "play": ["engine", "script"], "script_text": ["script"], "read_script": ["text"], "said_text": ["said"],
        "same_end": ["one", "other"], "parting_start": ["one", "other"], "trimmed": ["script"],
    },
    "branches": {
        "edition": ["engine"], "engine_of": ["edition"], "behind": ["edition", "log"], "unlike_spots": ["one", "other"],
        "steps": ["one", "other"], "conflicts": ["base", "one", "other"], "meeting": ["base", "one", "other"],
        "weaves": ["edition", "one", "other"], "left_out": ["edition", "log", "position"], "Tree": ["store"],
    },
    "making": {
        "Maker": ["label", "heads", "told"], "grown": ["makers", "store", "most"], "things": ["makers", "store", "most"],
        "ranks": ["makers"], "check_ranks": ["makers", "value"], "endless": ["makers"], "check_endless": ["makers", "value"],
        "sure_answers": ["makers", "question", "store", "most"], "maker_follows": ["makers", "maker", "most"],
        "needless_makers": ["makers", "most"],
    },
    "guards": {
        "Guard": ["label", "told", "pairs=None"],
        **{name: ["book", "guards", "store"] for name in ("sound", "breaks", "blames", "repairs", "fewest")},
        **{name: ["book", "guards", "store", "question"] for name in ("surely", "perhaps")},
        **{name: ["book", "guards", "store", "could"] for name in ("tellable", "fullest")},
    },
    "guarding": {
        "guard_follows": ["book", "guards", "guard"], "guards_alike": ["book", "one", "other"], "parting_guards": ["book", "one", "other"],
        "lean_guards": ["book", "guards"], "follows_under": ["book", "guards", "rule"], "alike_under": ["guards", "one", "other"],
        "parting_under": ["guards", "one", "other"], "lean_under": ["guards", "book"],
        "same_under_guards": ["book", "guards", "one", "other"], "leak": ["deeds", "guards"], "check_leak": ["deeds", "guards", "value"],
    },
    "guarded": {"GuardedEngine": ["store", "guards"], "guarded_again": ["store", "guards", "log"]},
    "lapses": {
        "stands_at": ["dated", "moment"], "closed_at": ["book", "dated", "moment"], "how_long": ["book", "dated", "fact"],
        "last_moments": ["book", "dated"], "timetable": ["book", "dated"], "answer_terms": ["book", "question", "dated"],
        "lasting": ["book", "dated", "fact"], "failing": ["book", "dated", "fact"],
        **{name: ["book", "dated", "fact", "moment"] for name in ("prolongings", "cheapest", "cuts_short")},
    },
    "chances": {
        **{name: ["book", "chanced", "fact"] for name in ("chance", "levers", "critical", "likeliest", "cases")},
        **{name: ["book", "chanced", "facts"] for name in ("chance_all", "chance_some")},
        "chance_given": ["book", "chanced", "fact", "known"], "expected": ["book", "chanced"],
        **{name: ["book", "question", "chanced"] for name in ("answer_chances", "chance_answered", "spread")},
        "check_cases": ["book", "chanced", "fact", "value"], "cases_chance": ["chanced", "value"],
    },
    "apart": {
        "never_apart": ["one", "other"], "parting_script": ["one", "other"], "check_parting_script": ["one", "other", "value"],
    },
}
MEMBERS = {
    ("rules", "Rule"): {"label": None, "head": None, "told": None, "pairs": None, "denied": None},
    ("rules", "Book"): {"rules": [], "labels": [], "rule": ["label"], "without": ["label"], "plain": None, "__len__": [],
                        "__add__": ["other"], "__eq__": ["other"]},
    ("rules", "Question"): {"columns": None, "told": None, "pairs": None},
    ("deeds", "Deed"): {name: None for name in ("label", "rank", "told", "takes", "puts", "pairs", "denied")},
    ("live", "Engine"): {
        **{name: [] for name in ("given", "closed", "books", "whole", "views", "turned", "log", "undo", "redo", "trial", "copy")},
        **{name: ["fact"] for name in ("why", "tell", "take_back", "__contains__")}, "__len__": [],
        **{name: ["name"] for name in ("book", "drop_book", "drop_view", "question", "seen")},
        "put_book": ["name", "book"], "exchange": ["name", "book"], "put_view": ["name", "question"], "attempt": ["action"],
    },
    ("keeping", "Net"): {
        **{name: [] for name in ("book", "given", "closed", "beginnings", "kept", "turned", "copy", "__len__")},
        **{name: ["fact"] for name in ("tell", "take", "leads", "would", "needs", "leans", "__contains__")},
        **{name: ["label"] for name in ("drop", "matches", "partials")}, "turn": ["told", "taken"], "add": ["rule"],
        "__eq__": ["other"],
    },
    ("branches", "Tree"): {
        "branches": [], "log": ["branch"], "edition": ["branch"], "change": ["branch", "change"], "fork": ["branch", "moment", "name"],
        "base": ["one", "other"], "join": ["one", "other"],
    },
    ("making", "Maker"): {name: None for name in ("label", "heads", "told")},
    ("guards", "Guard"): {name: None for name in ("label", "told", "pairs")},
}
MEMBERS["guarded", "GuardedEngine"] = {
    **MEMBERS["live", "Engine"], "guards": [], "put_guard": ["guard"], "drop_guard": ["label"], "tellable": ["could"], "room": ["fact"],
}


def parameters(thing):
    """The parameters of a function or a class, without a method's own object."""
    found = [str(one) for one in inspect.signature(thing).parameters.values()]
    return [one for one in found if one != "self"]


class Interface(unittest.TestCase):
    def test_each_name_is_defined_in_its_module_with_its_arguments(self):
        for module, names in INTERFACE.items():
            place = importlib.import_module(f"neverapart.{module}")
            for name, expected in names.items():
                thing = getattr(place, name)
                self.assertEqual(thing.__module__, f"neverapart.{module}")
                self.assertEqual(parameters(thing), expected, name)

    def test_each_member_is_defined_in_its_class_itself(self):
        for (module, name), members in MEMBERS.items():
            kind = getattr(importlib.import_module(f"neverapart.{module}"), name)
            for member, expected in members.items():
                thing = vars(kind)[member]
                if expected is None:
                    self.assertIsInstance(thing, property)
                else:
                    self.assertEqual(parameters(thing), expected, member)


class Limits(unittest.TestCase):
    def test_a_little_beyond_the_limits(self):
        told = [("road", one, other) for one, other in zip("ABCDEF", "BCDEFG")]
        rule = Rule("r", ("way", "A", "G"), told, [("A", "B"), ("B", "C"), ("C", "D")], [("p", "A"), ("q", "B"), ("r", "C")])
        self.assertEqual([len(rule.told), len(rule.pairs), len(rule.denied)], [6, 3, 3])
        names = "abcdefgh"
        ring = [("road", one, other) for one, other in zip(names, names[1:] + names[0])]
        ring = ring + [("hut", name) for name in names]
        plain = Book([Rule("r" + name, rule.head, told) for name in names])
        self.assertEqual([len(closed(plain, ring)), count_papers(plain, ring, ("way", "a", "g"))], [24, 8])
        self.assertEqual(len(matches(Question(["A"], told), ring)), 8)
        self.assertEqual(best_order(Question([], told[:5]), ring), [0, 1, 2, 3, 4])
        self.assertTrue(follows(plain, Rule("s", ("way", "A", "G"), told)))
        self.assertEqual(slim(plain), plain)

    def test_a_little_beyond_the_limits_of_later_sections(self):
        names = "abcdefghij"
        huts = [("hut", name) for name in names]
        book = Book([Rule("r", ("all",), [("hut", name) for name in names[:5]])])
        self.assertEqual(chance(book, [(fact, (1, 2)) for fact in huts], ("all",)), (1, 32))
        self.assertEqual(how_long(book, [(fact, at) for at, fact in enumerate(huts)], ("all",)), ("until", 0))
        self.assertEqual(len(cuts_short(book, [(fact, at) for at, fact in enumerate(huts)], ("all",), 0)), 5)
        guards = [Guard("g" + name, [("hut", name), ("hut", "X"), ("hut", "Y"), ("hut", "Z")], [("X", "Y"), ("Y", "Z"), ("X", name)]) for name in names[:5]]
        self.assertEqual([fewest(book, guards, huts), len(lean_guards(book, guards))], [5, 5])
        self.assertEqual(len(weaves(([], {}, {}), [("tell", fact) for fact in huts[:5]], [("tell", fact) for fact in huts[4:8]])), 1)
        makers = [Maker("m" + name, [("p", "X", "U"), ("q", "U", "V"), ("r", "V", "X"), ("hut", "X")], ("hut", "X")) for name in names[:5]]
        self.assertEqual(len(grown(makers, huts, 100)), 10 + 5 * 10 * 3)
        script = [("tell", ("deep",))]
        for _ in range(8):
            script = [("try", script), ("ask", ("deep",))]
        script = script + [("tell", fact) for fact in huts] * 5
        engine = Engine([])
        self.assertEqual([read_script(script_text(script)) == script, len(play(engine, script)), len(engine.log())], [True, 52, 10])
        tree = Tree([])
        for place, name in enumerate(names):
            tree.change("main", ("tell", huts[place]))
            tree.fork("main", place + 1, name)
        self.assertEqual([tree.base("a", "j"), len(tree.join("a", "main"))], [1, 9])


class Values(unittest.TestCase):
    def test_a_tuple_is_not_taken_for_a_list_nor_a_list_for_a_tuple(self):
        for call in (lambda: matches(Question([], []), ()), lambda: Rule("r", ["rain"], []), lambda: closed(Book([]), [["rain"]])):
            with self.assertRaises(ValueError):
                call()

    def test_equal_stores_in_another_order_and_doubles(self):
        store = [("road", "b", "a"), ("road", "a", "b"), ("hut", "a")]
        question = Question([], [("road", "X", "Y"), ("hut", "Z")])
        self.assertEqual(matches(question, store), matches(question, store[::-1]))
        self.assertEqual(matches(question, store), [("a", "b", "a"), ("b", "a", "a")])


if __name__ == "__main__":
    unittest.main()
