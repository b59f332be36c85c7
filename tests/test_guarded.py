"""[200] to [203] Guarded engines: led through rows of all changes beside one that is worked out anew behind each."""

import unittest

import test_live
from neverapart.branches import edition
from neverapart.errors import (
    InvalidBook, InvalidFact, InvalidGuard, InvalidLog, InvalidName, NothingToRedo, NothingToUndo, NotPlain, TakenName, UnknownName, Unsound,
)
from neverapart.guarded import GuardedEngine, guarded_again
from neverapart.guarding import alike_under
from neverapart.guards import Guard
from neverapart.live import Engine, replayed
from neverapart.papers import check_paper
from neverapart.rules import Book, Rule
from neverapart.scripts import play
from plainly import (
    BACK, DRY, GUARDINGS, NO_NAMES, ODD, ROUND, ROW, TOWN, TWIN, TWO, WAYS, WRONG, Chance, all_breaks, all_repairs, all_that_follows, refused,
    refuses_wrong,
)
from scripted import by_hand, drawn_script
from test_guarding import LONE, LOOP
from test_live import Plain, drawn_change, make

CA = ("road", "c", "a")


class PlainGuarded(Plain):
    """A guarded engine as section 20 tells it: everything is worked out from the log."""

    def __init__(self, store, guards):
        super().__init__(store)
        self.first = list(guards)

    def state(self):
        there = [one for one in self.done if one[0] not in ("guard", "unguard")]
        whole, self.done = self.done, there
        try:
            return super().state()
        finally:
            self.done = whole

    def guards(self):
        found = list(self.first)
        for change in self.done:
            if change[0] == "guard":
                found.append(change[1])
            elif change[0] == "unguard":
                found = [guard for guard in found if guard.label != change[1]]
        return found

    def breaks(self):
        return all_breaks(self.rules(), self.guards(), sorted(self.state()[0]))

    def change(self, change):
        """What came and went; or what breaks, and then nothing is changed."""
        kept = self.kept()
        result = self.step(change[0] not in ("view", "unview", "guard", "unguard"), self.done + [change], [])
        found = self.breaks()
        if found:
            self.done, self.undone, self.earlier = kept
        return result, found

    def copied(self):
        other = PlainGuarded(self.store, self.first)
        other.done, other.undone, other.earlier = self.kept()
        return other


def make_guarded(engine, change):
    if change[0] == "guard":
        return engine.put_guard(change[1])
    return engine.drop_guard(change[1]) if change[0] == "unguard" else make(engine, change)


def drawn_any(chance, plain):
    """A change whose form is right and that can be made but for guards."""
    labels = [guard.label for guard in plain.guards()]
    way = chance.draw.random()
    if way < 0.15 and len(labels) < 4:
        return ("guard", chance.guard(chance.draw.choice([one for one in ("ha", "hb", "hc", "hd", "he") if one not in labels])))
    if way < 0.25 and labels:
        return ("unguard", chance.draw.choice(labels))
    return drawn_change(chance, plain)


class LedWithoutGuards(test_live.Led):
    """All that section 12 says holds for guarded engines, too."""

    def drawn(self, many):
        for seed in range(many):
            chance = Chance(seed, names="ab", letters="XY")
            store = chance.store(3)
            yield GuardedEngine(store, []), Plain(store), chance

    def test_copies_go_their_own_ways(self):
        for engine, plain, chance in self.drawn(9):
            self.assertIs(type(engine.copy()), GuardedEngine)
            copied = engine.copy()
            self.step(copied, plain, chance)
            self.assertEqual([engine.log(), copied.log() == plain.done], [[], True])


class Led(unittest.TestCase):
    def same(self, engine, plain):
        given, books, views = plain.state()
        known = plain.known()
        self.assertEqual([engine.given(), engine.closed(), len(engine)], [sorted(given), known, len(known)])
        self.assertEqual([engine.books(), engine.views(), engine.log(), engine.guards()], [sorted(books), sorted(views), plain.done, plain.guards()])
        self.assertEqual([engine.turned(), engine.whole(), edition(engine)], [plain.turned(), Book(plain.rules()), (sorted(given), books, views)])
        self.assertEqual([engine.book(name) for name in sorted(books)], [books[name] for name in sorted(books)])
        answers = plain.answers()
        for name in views:
            self.assertEqual([engine.question(name), engine.seen(name)], [views[name], answers[name]])
        self.assertEqual(plain.breaks(), [])

    def step(self, engine, plain, chance, seen):
        way = chance.draw.random()
        if way < 0.15:
            if plain.done:
                plain.undo()
                self.assertIsNone(engine.undo())
            else:
                self.assertRaises(NothingToUndo, engine.undo)
        elif way < 0.3:
            if plain.undone:
                plain.redo()
                self.assertIsNone(engine.redo())
            else:
                self.assertRaises(NothingToRedo, engine.redo)
        elif way < 0.35:
            fact = chance.pattern(chance.names)
            self.assertEqual([fact in engine, fact in plain.known()], [fact in plain.known()] * 2)
            paper = engine.why(fact)
            self.assertTrue(paper is None and fact not in engine or check_paper(engine.whole(), engine.given(), fact, paper))
        else:
            change = drawn_any(chance, plain)
            result, found = plain.change(change)
            if found:
                seen[change[0]] = seen.get(change[0], 0) + 1
                with self.assertRaises(Unsound) as caught:
                    make_guarded(engine, change)
                self.assertEqual(caught.exception.value, found)
            else:
                self.assertEqual(make_guarded(engine, change), None if change[0] in ("view", "unview", "guard", "unguard") else result)
        self.same(engine, plain)

    def drawn(self, many, more=()):
        for seed in range(many):
            chance = Chance(seed, names="ab", letters="XY")
            store, guards = chance.store(2), chance.guards(2) + list(more)
            if not all_breaks([], guards, store):
                yield GuardedEngine(store, guards), PlainGuarded(store, guards), chance

    def test_rows_of_changes(self):
        seen = {}
        for engine, plain, chance in self.drawn(90):
            self.same(engine, plain)
            for _ in range(25):
                self.step(engine, plain, chance, seen)
            self.again(engine, plain)
            while plain.done:
                plain.undo()
                engine.undo()
            self.same(engine, plain)
            while plain.undone:
                plain.redo()
                engine.redo()
            self.same(engine, plain)
        self.assertEqual(sorted(seen), ["exchange", "guard", "put", "tell"])
        self.assertTrue(min(seen.values()) > 3, seen)

    def again(self, engine, plain):
        """A log led again, and a script of one without guards."""
        led = guarded_again(plain.store, plain.first, engine.log())
        self.same(led, self.fresh(plain))
        self.assertEqual([type(led), guarded_again(log=plain.done, guards=plain.first, store=plain.store).log()], [GuardedEngine, plain.done])
        if any(change[0] in ("guard", "unguard") for change in plain.done):
            with self.assertRaises(InvalidLog):
                replayed(plain.store, engine.log())

    def fresh(self, plain):
        other = PlainGuarded(plain.store, plain.first)
        for change in plain.done:
            other.change(change)
        return other

    def test_blocks_attempts_and_copies(self):
        seen = {}
        for engine, plain, chance in self.drawn(25):
            for _ in range(5):
                self.step(engine, plain, chance, seen)
            inner = plain.copied()
            with engine.trial() as same:
                self.assertIs(same, engine)
                for _ in range(5):
                    self.step(engine, inner, chance, seen)
                deeper = inner.copied()
                self.assertIs(engine.attempt(lambda one: (self.step(one, deeper, chance, seen), one)[1]), engine)
                self.same(engine, inner)
            self.same(engine, plain)
            with self.assertRaises(Unsound):
                with engine.trial():
                    engine.put_guard(Guard("never", []))
            copied, other = engine.copy(), plain.copied()
            self.assertIs(type(copied), GuardedEngine)
            for _ in range(5):
                self.step(copied, other, chance, seen)
                self.same(engine, plain)
            for _ in range(5):
                self.step(engine, plain, chance, seen)
                self.same(copied, other)

    def test_scripts(self):
        refusals = {}
        for seed in range(40):
            chance = Chance(seed, names="ab", letters="XY")
            store, guards = chance.store(2), chance.guards(2)
            if all_breaks([], guards, store):
                continue
            one, other = GuardedEngine(store, guards), GuardedEngine(store, guards)
            script = drawn_script(chance, 12)
            said = play(one, script)
            self.assertEqual(said, [by_hand(other, command) for command in script])
            self.assertEqual([one.log(), one.closed(), one.guards()], [other.log(), other.closed(), guards])
            for item in said:
                refusals[item[-1] if item[0] == "refused" else None] = True
        self.assertIn("Unsound", refusals)

    def test_tellable_and_room(self):
        seen = {0: 0, 1: 0, 2: 0}
        none = 0
        for engine, plain, chance in self.drawn(100, [Guard("he", [("q", "X", "Y"), ("p", "Z"), ("s",)])]):
            for _ in range(8):
                self.step(engine, plain, chance, {})
            could = chance.store(6)
            expected = [fact for fact in sorted(could) if fact not in engine.given() and self.can(engine, lambda one: one.tell(fact))]
            self.assertEqual([engine.tellable(could), engine.tellable(could=could[::-1])], [expected] * 2)
            for fact in could:
                rooms = self.rooms(engine, fact)
                self.assertEqual([engine.room(fact), engine.room(fact=fact)], [rooms, rooms])
                seen[min(2, len(rooms))] += 1
                none += rooms == [[]]
            self.same(engine, plain)
        self.assertTrue(min(seen.values()) > 3 and none > 50, (seen, none))

    def can(self, engine, action):
        try:
            engine.attempt(action)
        except Unsound:
            return False
        return True

    def rooms(self, engine, fact):
        """By telling and taking back alone."""
        if fact in engine.given():
            return [[]]
        found = []
        for some in self.subsets(engine.given()):
            def action(one):
                for other in some:
                    one.take_back(other)
                one.tell(fact)
            if self.can(engine, action):
                found.append(some)
        return sorted(some for some in found if not any(set(less) < set(some) for less in found))

    def subsets(self, facts):
        return [[]] if not facts else [more for rest in self.subsets(facts[1:]) for more in (rest, facts[:1] + rest)]


class Parts(unittest.TestCase):
    def test_it_is_an_engine(self):
        engine = GuardedEngine(guards=[BACK], store=ROW[::-1])
        self.assertTrue(isinstance(engine, Engine) and GuardedEngine.__bases__ == (Engine,))
        self.assertEqual([engine.given(), engine.guards(), engine.log(), len(engine), ROW[0] in engine, CA in engine], [ROW, [BACK], [], 2, True, False])
        for thing in ODD + [list(ROW[0])]:
            self.assertIs(thing in engine, False)
            refused(self, InvalidFact, thing, engine.why, thing)
        for name in vars(Engine):
            if not name.startswith("_"):
                self.assertIn(name, vars(GuardedEngine))

    def test_wrong_arguments_of_the_class(self):
        for error, store in WRONG["store"]:
            for guards in ([BACK], None):
                refused(self, error, store, GuardedEngine, store, guards)
                refused(self, error, store, guarded_again, store, guards, [])
        for error, guards in WRONG["guards"]:
            # Unsound comes behind the errors of all arguments.
            for store in (ROW, [("way", "a", "a")]):
                refused(self, error, guards, GuardedEngine, store, guards)
                refused(self, error, guards, GuardedEngine, guards=guards, store=store)
        loops = [("way", "b", "b"), ("hut", "a"), ("way", "a", "a"), ("hut", "c")]
        broken = [("back", ("a",)), ("back", ("b",)), ("twin", ("a", "c")), ("twin", ("c", "a"))]
        for call in (lambda: GuardedEngine(loops, [TWIN, BACK]), lambda: guarded_again(loops, [TWIN, BACK], []), lambda: guarded_again(loops, [TWIN, BACK], [("tell", 1)])):
            with self.assertRaises(Unsound) as caught:
                call()
            self.assertEqual(caught.exception.value, broken)
        never = Guard("never", [])
        with self.assertRaises(Unsound) as caught:
            GuardedEngine([], [never])
        self.assertEqual(caught.exception.value, [("never", ())])

    def test_wrong_arguments_of_guarded_again(self):
        names, right = ["store", "guards", "log"], [ROW, [BACK], []]
        refuses_wrong(self, guarded_again, names, ["store", "guards", None], right)
        wrong = [thing for _, thing in WRONG["log"] if not (isinstance(thing, list) and len(thing) == 2 and thing[-1] in GUARDINGS)]
        for log in wrong + [[("guard",)], [("guard", BACK, BACK)], [("unguard",)], [("unguard", "a", "b")], [["guard", BACK]], [("guards", BACK)]]:
            for store in (ROW, [("way", "a", "a")]):
                refused(self, InvalidLog, log, guarded_again, store, [BACK], log)
                refused(self, InvalidLog, log, guarded_again, log=log, store=store, guards=[BACK])
        for log, error, value in (
            ([("guard", 7)], InvalidGuard, 7), ([("guard", BACK)], TakenName, "back"), ([("unguard", 7)], UnknownName, 7), ([("tell", ROW[0])], TakenName, ROW[0]),
            ([("unguard", "back"), ("guard", BACK), ("guard", BACK), ("tell", 7)], TakenName, "back"), ([("put", "w", 7)], InvalidBook, 7),
        ):
            refused(self, error, value, guarded_again, ROW, [BACK], log)
        with self.assertRaises(Unsound) as caught:
            guarded_again(ROW, [BACK], [("put", "w", WAYS), ("tell", CA), ("tell", 7)])
        self.assertEqual(caught.exception.value, [("back", (name,)) for name in "abc"])

    def test_unsound_behind_all_other_errors(self):
        engine = GuardedEngine(ROW, [BACK])
        engine.put_book("ways", WAYS)
        loops = Book([Rule("loops", ("way", "X", "X"), [("road", "X", "Y")])])
        same = Book([Rule("step", ("way", "X", "X"), [("road", "X", "Y")])])
        denied = loops + Book([DRY])
        refused(self, TakenName, "ways", engine.put_book, "ways", loops)
        refused(self, InvalidName, "W", engine.put_book, "W", loops)
        refused(self, NotPlain, denied, engine.put_book, "w", denied)
        refused(self, TakenName, "step", engine.put_book, "w", same)
        refused(self, UnknownName, "w", engine.exchange, "w", loops)
        refused(self, TakenName, ROW[0], engine.tell, ROW[0])
        for call in (lambda: engine.put_book("w", loops), lambda: engine.exchange("ways", loops), lambda: engine.exchange(book=same, name="ways")):
            with self.assertRaises(Unsound) as caught:
                call()
            self.assertEqual(caught.exception.value, [("back", ("a",)), ("back", ("b",))])
        for error, thing in WRONG["fact"]:
            refused(self, error, thing, engine.tell, thing)
            refused(self, error, thing, engine.take_back, fact=thing)
            refused(self, error, thing, engine.room, thing)
            refused(self, error, thing, engine.room, fact=thing)
        for error, thing in WRONG["store"]:
            refused(self, error, thing, engine.tellable, thing)
            refused(self, error, thing, engine.tellable, could=thing)
        for error, thing in WRONG["plain book"]:
            refused(self, error, thing, engine.put_book, "new", thing)
            refused(self, error, thing, engine.exchange, "ways", thing)
        for error, thing in WRONG["question"]:
            refused(self, error, thing, engine.put_view, "new", thing)
        for thing in NO_NAMES + ["none"]:
            for call in (engine.book, engine.drop_book, engine.drop_view, engine.question, engine.seen, engine.drop_guard):
                refused(self, UnknownName, thing, call, thing)
        self.assertEqual([engine.given(), len(engine.log())], [ROW, 1])

    def test_guards_come_and_go(self):
        engine = GuardedEngine(ROW, [TWIN])
        engine.put_book("ways", WAYS)
        self.assertIsNone(engine.put_guard(guard=BACK))
        for error, thing in WRONG["guard"]:
            refused(self, error, thing, engine.put_guard, thing)
        other = Guard("back", [])
        refused(self, TakenName, "back", engine.put_guard, other)
        never = Guard("never", [("way", "X", "Y"), ("way", "Y", "Z")])
        with self.assertRaises(Unsound) as caught:
            engine.put_guard(never)
        self.assertEqual(caught.exception.value, [("never", ("a", "b", "c"))])
        for thing in ODD + NO_NAMES + ["none", "ways", ["back"]]:
            refused(self, UnknownName, thing, engine.drop_guard, thing)
            refused(self, UnknownName, thing, engine.drop_guard, label=thing)
        self.assertEqual(engine.guards(), [TWIN, BACK])
        self.assertIsNone(engine.drop_guard("twin"))
        engine.put_guard(LOOP)
        self.assertEqual([engine.guards(), engine.log()[1:]], [[BACK, LOOP], [("guard", BACK), ("unguard", "twin"), ("guard", LOOP)]])
        engine.undo()
        engine.undo()
        # It stands again where it stood.
        self.assertEqual(engine.guards(), [TWIN, BACK])
        engine.redo()
        self.assertEqual([engine.guards(), engine.drop_guard("back"), engine.tell(CA)[1]], [[BACK], None, []])
        with self.assertRaises(Unsound) as caught:
            engine.put_guard(BACK)
        self.assertEqual(caught.exception.value, [("back", (name,)) for name in "abc"])
        engine.guards().append(1)
        self.assertEqual(engine.guards(), [])

    def test_guards_turn_no_views(self):
        engine = GuardedEngine(ROW, [])
        engine.put_view("two", TWO)
        engine.tell(("hut", "c"))
        self.assertEqual(engine.turned(), ["two"])
        engine.put_guard(BACK)
        self.assertEqual(engine.turned(), ["two"])
        engine.drop_guard("back")
        self.assertEqual(engine.turned(), ["two"])
        engine.undo()
        self.assertEqual(engine.turned(), [])

    def test_room(self):
        engine = GuardedEngine(ROW, [BACK])
        engine.put_book("ways", WAYS)
        self.assertEqual([engine.room(CA), engine.room(ROW[0]), engine.room(("hut", "a")), engine.room(("way", "c", "c"))], [[[ROW[0]], [ROW[1]]], [[]], [[]], []])
        self.assertEqual([engine.tellable([]), engine.tellable(ROW), engine.tellable(TOWN), engine.tellable([CA])], [[], [], [("hut", "c")], []])
        # What is sound stays so with fewer facts.
        for fact in ROW:
            self.assertIsNotNone(engine.take_back(fact))
        engine.tell(CA)
        self.assertEqual(all_repairs(WAYS.rules(), [BACK], [CA]), [[]])

    def test_nothing_is_shared(self):
        store, guards, log = ROW[::-1], [BACK], [("put", "ways", WAYS), ("guard", TWIN), ("view", "v", ROUND)]
        engine, again = GuardedEngine(store, guards), guarded_again(store, guards, log)
        store.clear(), guards.clear(), log.clear()
        self.assertEqual([engine.guards(), again.guards(), engine.given()], [[BACK], [BACK, TWIN], ROW])
        for one in (engine, again):
            kept = [one.given(), one.guards(), one.log(), one.closed(), one.tellable(TOWN), one.room(CA)]
            for thing in (one.given(), one.guards(), one.log(), one.closed(), one.tellable(TOWN), one.room(CA)):
                thing.append(1)
            self.assertEqual([one.given(), one.guards(), one.log(), one.closed(), one.tellable(TOWN), one.room(CA)], kept)
        with self.assertRaises(Unsound) as caught:
            again.tell(CA)
        caught.exception.value.clear()
        with self.assertRaises(Unsound) as caught:
            again.tell(CA)
        self.assertEqual(len(caught.exception.value), 3)


class Exchanged(unittest.TestCase):
    """[203]: books that are alike under the guards that stand then."""

    def test_books_alike_under_guards_are_never_told_apart(self):
        unsound = unlike = 0
        for seed in range(40):
            chance = Chance(seed, names="ab", letters="XY")
            store, guards = chance.store(2), chance.guards(2) + [Guard("twice", [("q", "X", "Y"), ("q", "Y", "X")])]
            if all_breaks([], guards, store):
                continue
            one, other, plain = GuardedEngine(store, guards), GuardedEngine(store, guards), PlainGuarded(store, guards)
            for _ in range(14):
                change = drawn_any(chance, plain)
                if change[0] == "unguard":
                    continue
                twin = change
                if change[0] in ("put", "exchange"):
                    label = "more" + change[1]
                    more = Rule(label, ("p", "X"), [("q", "X", "Y"), ("q", "Y", "X")] + chance.told(1))
                    twin = (*change[:2], change[2] + Book([more]))
                    self.assertTrue(alike_under(plain.guards(), change[2], twin[2]))
                    unlike += 1
                results = []
                for engine, each in ((one, change), (other, twin)):
                    try:
                        results.append(make_guarded(engine, each))
                    except Unsound:
                        results.append(Unsound)
                self.assertEqual(results[0], results[1])
                unsound += results[0] is Unsound
                plain.change(change)
                if chance.draw.random() < 0.25 and plain.done:
                    one.undo(), other.undo(), plain.undo()
                same = [[e.given(), e.closed(), len(e), e.turned(), [e.seen(view) for view in e.views()], e.guards()] for e in (one, other)]
                self.assertEqual(same[0], same[1])
                self.assertEqual(one.closed(), all_that_follows(plain.rules(), one.given()))
        self.assertTrue(unsound > 5 and unlike > 20, (unsound, unlike))

    def test_the_example_in_small(self):
        one, other = GuardedEngine(ROW, [BACK]), GuardedEngine(ROW, [BACK])
        self.assertEqual(one.put_book("w", WAYS), other.put_book("w", WAYS + Book([LONE])))
        for engine in (one, other):
            with self.assertRaises(Unsound):
                engine.tell(CA)
        self.assertEqual(one.closed(), other.closed())


if __name__ == "__main__":
    unittest.main()
