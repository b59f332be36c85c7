"""[120] to [125] Engines: led through rows of changes, everything that they tell worked out anew behind each."""

import unittest

from neverapart.closing import closed
from neverapart.denial import meaning, stands_on
from neverapart.errors import (
    InvalidBook, InvalidFact, InvalidLog, InvalidName, InvalidQuestion, InvalidStore, NeverError, NotPlain, NothingToRedo, NothingToUndo,
    TakenName, UnknownName,
)
from neverapart.firing import can_fire
from neverapart.live import Engine, replayed
from neverapart.lots import supports
from neverapart.papers import check_paper, least_height, why
from neverapart.books import alike, parting
from neverapart.rules import Book, Question, Rule
from plainly import (
    DRY, FAR, GO, LONG, NO_NAMES, ODD, ROW, STEP, TOWN, TWO, WAYS, WRONG, Chance, all_answers, all_that_follows, but, refused, refuses_wrong,
)

ROUND = Question(["X"], [("way", "X", "X")])
CA = ("road", "c", "a")


class Plain:
    """An engine as section 12 tells it: everything is worked out from the log, with nothing kept."""

    def __init__(self, store):
        self.store, self.done, self.undone, self.earlier = sorted(store), [], [], {}

    def state(self):
        given, books, views = set(self.store), {}, {}
        for change in self.done:
            word = change[0]
            if word == "tell":
                given.add(change[1])
            elif word == "take":
                given.remove(change[1])
            elif word in ("put", "exchange"):
                books[change[1]] = change[2]
            elif word == "drop":
                del books[change[1]]
            elif word == "view":
                views[change[1]] = change[2]
            else:
                del views[change[1]]
        return given, books, views

    def rules(self):
        books = self.state()[1]
        return [rule for name in sorted(books) for rule in books[name].rules()]

    def known(self):
        return all_that_follows(self.rules(), sorted(self.state()[0]))

    def answers(self):
        return {name: all_answers(question, self.known()) for name, question in self.state()[2].items()}

    def step(self, turns, done, undone):
        """Another log, and what came and went; the answers ahead of it are kept if it may turn views."""
        before, answers, views = self.known(), self.answers(), self.state()[2]
        self.done, self.undone = done, undone
        if turns:
            self.earlier = {name: answers[name] for name in answers if name in self.state()[2]}
        else:
            self.earlier = {name: self.earlier[name] for name in self.earlier if name in self.state()[2] and name in views}
        after = self.known()
        return [fact for fact in after if fact not in before], [fact for fact in before if fact not in after]

    def change(self, change):
        return self.step(change[0] not in ("view", "unview"), self.done + [change], [])

    def undo(self):
        self.step(True, self.done[:-1], self.undone + self.done[-1:])

    def redo(self):
        self.step(True, self.done + self.undone[-1:], self.undone[:-1])

    def turned(self):
        now = self.answers()
        return sorted(name for name in self.earlier if now[name] != self.earlier[name])

    def kept(self):
        return self.done, self.undone, self.earlier


def make(engine, change):
    word, *more = change
    methods = {
        "tell": engine.tell, "take": engine.take_back, "put": engine.put_book, "drop": engine.drop_book, "exchange": engine.exchange,
        "view": engine.put_view, "unview": engine.drop_view,
    }
    return methods[word](*more)


def drawn_change(chance, plain):
    """A change that can be made in an engine."""
    given, books, views = plain.state()
    draw = chance.draw
    while True:
        word = draw.choice(["tell", "tell", "take", "put", "drop", "exchange", "exchange", "view", "unview"])
        if word == "tell" and len(given) < 9:
            fact = chance.pattern(chance.names)
            if fact not in given:
                return (word, fact)
        if word == "take" and given:
            return (word, draw.choice(sorted(given)))
        if word in ("put", "exchange"):
            free = [name for name in "fgh" if name not in books]
            names = free if word == "put" else sorted(books)
            taken = [label for name in books for label in books[name].labels()]
            if names:
                name = draw.choice(names)
                own = books[name].labels() if word == "exchange" else []
                labels = [label for label in "jklm" if label not in taken or label in own]
                draw.shuffle(labels)
                return (word, name, Book([chance.rule(label, 2) for label in labels[:draw.randint(0, 2)]]))
        if word == "drop" and books:
            return (word, draw.choice(sorted(books)))
        if word == "view" and len(views) < 3:
            return (word, draw.choice([name for name in "fvw" if name not in views]), chance.question(2))
        if word == "unview" and views:
            return (word, draw.choice(sorted(views)))


class Led(unittest.TestCase):
    def same(self, engine, plain):
        given, books, views = plain.state()
        known = plain.known()
        self.assertEqual([engine.given(), engine.closed(), len(engine)], [sorted(given), known, len(known)])
        self.assertEqual([engine.books(), engine.views(), engine.log()], [sorted(books), sorted(views), plain.done])
        self.assertEqual(engine.whole(), Book(plain.rules()))
        self.assertEqual(engine.turned(), plain.turned())
        answers = plain.answers()
        for name in books:
            self.assertEqual(engine.book(name), books[name])
        for name in views:
            self.assertEqual([engine.question(name), engine.seen(name)], [views[name], answers[name]])

    def step(self, engine, plain, chance):
        """One more change, undone or done again, and what it returns."""
        way = chance.draw.random()
        if way < 0.15:
            if plain.done:
                plain.undo()
                self.assertIsNone(engine.undo())
            else:
                self.assertRaises(NothingToUndo, engine.undo)
        elif way < 0.3:
            if plain.undone:
                plain.redo()
                self.assertIsNone(engine.redo())
            else:
                self.assertRaises(NothingToRedo, engine.redo)
        elif way < 0.4:
            self.wrong(engine, plain)
        else:
            change = drawn_change(chance, plain)
            result = plain.change(change)
            self.assertEqual(make(engine, change), None if change[0] in ("view", "unview") else result)
        self.same(engine, plain)

    def wrong(self, engine, plain):
        """Calls that cannot be made change nothing."""
        given, books, views = plain.state()
        for fact in given:
            refused(self, TakenName, fact, engine.tell, fact)
        for name in books:
            refused(self, TakenName, name, engine.put_book, name, 7)
        for name in views:
            refused(self, TakenName, name, engine.put_view, name, 7)
        refused(self, UnknownName, "none", engine.drop_book, "none")
        refused(self, UnknownName, "none", engine.drop_view, "none")
        fact = ("none",)
        refused(self, UnknownName, fact, engine.take_back, fact)

    def drawn(self, many):
        for seed in range(many):
            chance = Chance(seed, names="ab", letters="XY")
            store = chance.store(3)
            yield Engine(store), Plain(store), chance

    def test_rows_of_changes(self):
        turned, twice = set(), 0
        for engine, plain, chance in self.drawn(25):
            self.same(engine, plain)
            for _ in range(30):
                self.step(engine, plain, chance)
                turned |= {len(plain.turned())}
                twice += len(plain.undone) > 1
            for at in range(len(plain.done) + 1):
                self.same(replayed(plain.store, plain.done[:at]), self.part(plain, at))
            while plain.done:
                plain.undo()
                engine.undo()
            self.same(engine, plain)
            self.assertEqual([engine.given(), engine.books(), engine.views()], [plain.store, [], []])
            while plain.undone:
                plain.redo()
                engine.redo()
            self.same(engine, plain)
        self.assertTrue(len(turned) > 1 and twice > 20, (turned, twice))

    def part(self, plain, at):
        other = Plain(plain.store)
        for change in plain.done[:at]:
            other.change(change)
        return other

    def test_blocks_within_blocks(self):
        for engine, plain, chance in self.drawn(20):
            for _ in range(4):
                self.step(engine, plain, chance)
            self.block(engine, plain, chance, 3)
            for _ in range(3):
                self.step(engine, plain, chance)

    def block(self, engine, plain, chance, depth):
        kept = plain.kept()
        left = chance.draw.choice(["by its end", "by an error", "by attempt"])
        box = object()

        def inside(given):
            self.assertIs(given, engine)
            for _ in range(3):
                self.step(engine, plain, chance)
            if chance.draw.random() < 0.5:
                while plain.done:
                    plain.undo()
                    engine.undo()
                self.same(engine, plain)
            if depth:
                self.block(engine, plain, chance, depth - 1)
                self.step(engine, plain, chance)
            return box

        if left == "by its end":
            with engine.trial() as name:
                inside(name)
        elif left == "by attempt":
            self.assertIs(engine.attempt(inside), box)
        else:
            with self.assertRaises(ZeroDivisionError):
                with engine.trial() as name:
                    inside(name)
                    raise ZeroDivisionError()
        plain.done, plain.undone, plain.earlier = kept
        self.same(engine, plain)
        # What can be undone and made again is as it was, too.
        for first, second, many in (("undo", "redo", len(plain.done)), ("redo", "undo", len(plain.undone))):
            one, other = engine.copy(), Plain(plain.store)
            other.done, other.undone, other.earlier = kept
            for call in [first] * many + [second] * many:
                getattr(one, call)()
                getattr(other, call)()
                self.same(one, other)

    def test_copies_go_their_own_ways(self):
        for engine, plain, chance in self.drawn(15):
            for _ in range(8):
                self.step(engine, plain, chance)
            copied, other = engine.copy(), Plain(plain.store)
            other.done, other.undone, other.earlier = plain.kept()
            self.assertIs(type(copied), Engine)
            for _ in range(6):
                self.step(copied, other, chance)
                self.same(engine, plain)
                self.step(engine, plain, chance)
                self.same(copied, other)
            with engine.trial():
                engine.tell(("fresh",))
                copied = engine.copy()
            self.assertTrue(("fresh",) in copied and ("fresh",) not in engine)


class Parts(unittest.TestCase):
    def test_facts_that_are_in_and_why(self):
        engine = Engine(ROW)
        engine.put_book("ways", WAYS)
        for fact in closed(WAYS, ROW):
            self.assertIs(fact in engine, True)
            paper = engine.why(fact)
            self.assertTrue(check_paper(WAYS, ROW, fact, paper))
            self.assertEqual(paper, why(WAYS, ROW, fact))
        self.assertEqual(least_height(WAYS, ROW, ("way", "a", "c")), 2)
        for thing in ODD + [CA, list(ROW[0]), ("way",), ["way", "a", "b"], (("way",),), ("way", ["a"], "b")]:
            self.assertIs(thing in engine, False)
        self.assertIsNone(engine.why(CA))
        for thing in ODD + [list(ROW[0])]:
            refused(self, InvalidFact, thing, engine.why, thing)

    def test_a_fact_that_is_taken_back_may_still_follow(self):
        engine = Engine(ROW + [("way", "a", "b")])
        self.assertEqual(engine.put_book("ways", WAYS), ([("way", "a", "c"), ("way", "b", "c")], []))
        self.assertEqual(engine.take_back(("way", "a", "b")), ([], []))
        self.assertEqual(engine.tell(("way", "a", "c")), ([], []))
        self.assertEqual([engine.given(), len(engine)], [ROW + [("way", "a", "c")], 5])
        self.assertEqual(engine.drop_book("ways"), ([], [("way", "a", "b"), ("way", "b", "c")]))

    def test_books_by_their_names(self):
        engine = Engine([])
        one, other = Book([STEP]), Book([FAR])
        engine.put_book("z", one)
        engine.put_book("a", other)
        self.assertEqual([engine.books(), engine.whole(), engine.book("z")], [["a", "z"], Book([FAR, STEP]), one])
        engine.put_view("z", ROUND)
        engine.put_view("a", TWO)
        self.assertEqual([engine.views(), engine.question("z")], [["a", "z"], ROUND])
        for call in (engine.book, engine.drop_book, engine.drop_view, engine.question, engine.seen):
            for thing in ODD + NO_NAMES + ["none", ["z"], ("z",), {"z": 1}]:
                refused(self, UnknownName, thing, call, thing)
                refused(self, UnknownName, thing, call, name=thing)
        for thing in ODD + NO_NAMES + ["none", ["z"]]:
            for book in (one, None, WAYS + Book([DRY])):
                refused(self, UnknownName, thing, engine.exchange, thing, book)
                refused(self, UnknownName, thing, engine.exchange, book=book, name=thing)

    def test_errors_of_tell_and_take_back(self):
        engine = Engine(ROW)
        for error, thing in WRONG["fact"]:
            for call in (engine.tell, engine.take_back):
                refused(self, error, thing, call, thing)
                refused(self, error, thing, call, fact=thing)
        refused(self, TakenName, ROW[0], engine.tell, ROW[0])
        refused(self, UnknownName, CA, engine.take_back, CA)
        engine.put_book("ways", WAYS)
        way = ("way", "a", "b")
        refused(self, UnknownName, way, engine.take_back, way)
        self.assertEqual([engine.given(), len(engine.log())], [ROW, 1])

    def test_errors_of_books_and_views(self):
        engine = Engine([])
        engine.put_book("ways", WAYS)
        engine.put_view("round", ROUND)
        books = [thing for _, thing in WRONG["plain book"]] + [Book([STEP])]
        for book in books:
            for name in NO_NAMES:
                refused(self, InvalidName, name, engine.put_book, name, book)
                refused(self, InvalidName, name, engine.put_book, book=book, name=name)
                refused(self, InvalidName, name, engine.put_view, name, book)
            refused(self, TakenName, "ways", engine.put_book, "ways", book)
            refused(self, TakenName, "round", engine.put_view, "round", book)
        for error, book in WRONG["plain book"]:
            refused(self, error, book, engine.put_book, "new", book)
            refused(self, error, book, engine.put_book, book=book, name="new")
            refused(self, error, book, engine.exchange, "ways", book)
        for error, question in WRONG["question"]:
            refused(self, error, question, engine.put_view, "new", question)
            refused(self, error, question, engine.put_view, question=question, name="new")
        self.assertEqual([len(engine.log()), engine.books(), engine.views()], [2, ["ways"], ["round"]])

    def test_labels_of_other_books(self):
        engine = Engine([])
        engine.put_book("one", Book([STEP]))
        engine.put_book("two", Book([FAR, LONG]))
        both = Book([Rule("new", ("p",), []), LONG, Rule("step", ("p",), []), FAR])
        refused(self, TakenName, "long", engine.put_book, "three", both)
        refused(self, TakenName, "step", engine.exchange, "two", both)
        refused(self, TakenName, "long", engine.exchange, "one", both)
        denied = Book([DRY, STEP])
        refused(self, NotPlain, denied, engine.put_book, "three", denied)
        refused(self, TakenName, "one", engine.put_book, "one", both)
        self.assertEqual(engine.exchange("two", Book([LONG])), ([], []))
        self.assertEqual(engine.put_book("three", Book([FAR])), ([], []))
        self.assertEqual(engine.whole().labels(), ["step", "far", "long"])

    def test_views_that_turn(self):
        engine = Engine(ROW)
        self.assertEqual(engine.turned(), [])
        engine.put_view("round", ROUND)
        engine.put_view("all", Question([], []))
        engine.put_book("ways", WAYS)
        self.assertEqual(engine.turned(), [])
        engine.tell(CA)
        self.assertEqual([engine.turned(), engine.seen("round")], [["round"], [("a",), ("b",), ("c",)]])
        self.assertRaises(NeverError, engine.tell, CA)
        self.assertEqual(engine.turned(), ["round"])
        # A view that is put in behind it is not among them, nor one that was taken out and put in again.
        engine.put_view("more", ROUND)
        self.assertEqual(engine.turned(), ["round"])
        engine.drop_view("round")
        self.assertEqual(engine.turned(), [])
        engine.put_view("round", ROUND)
        self.assertEqual(engine.turned(), [])
        for _ in range(2):
            engine.undo()
            self.assertEqual(engine.turned(), [])
        self.assertEqual(engine.views(), ["all", "more", "round"])
        engine.redo()
        engine.undo()
        engine.undo()
        engine.undo()
        self.assertEqual([engine.turned(), engine.views()], [["round"], ["all", "round"]])
        engine.redo()
        self.assertEqual(engine.turned(), ["round"])
        engine.exchange("ways", WAYS)
        self.assertEqual(engine.turned(), [])

    def test_undo_and_redo(self):
        engine = Engine(ROW)
        self.assertRaises(NothingToUndo, engine.undo)
        self.assertRaises(NothingToRedo, engine.redo)
        engine.tell(CA)
        engine.undo()
        self.assertRaises(NothingToUndo, engine.undo)
        engine.put_view("round", ROUND)
        self.assertRaises(NothingToRedo, engine.redo)
        engine.undo()
        self.assertRaises(ValueError, engine.tell, ROW[0])
        self.assertIsNone(engine.redo())
        self.assertRaises(NothingToRedo, engine.redo)
        self.assertEqual([engine.views(), engine.log()], [["round"], [("view", "round", ROUND)]])


class Trials(unittest.TestCase):
    def test_a_call_of_trial_alone_changes_nothing(self):
        engine = Engine(ROW)
        block = engine.trial()
        engine.tell(CA)
        with block as same:
            self.assertIs(same, engine)
            self.assertEqual(len(engine), 3)
            engine.undo()
            self.assertRaises(NothingToUndo, engine.undo)
        self.assertEqual([len(engine), engine.log()], [3, [("tell", CA)]])

    def test_errors_are_passed_on(self):
        engine = Engine(ROW)
        error = KeyError("own")
        for leave in (lambda: self.within(engine, error), lambda: engine.attempt(lambda same: self.within(same, error))):
            with self.assertRaises(KeyError) as caught:
                leave()
            self.assertIs(caught.exception, error)
            self.assertEqual([engine.given(), engine.log()], [ROW, []])
        with self.assertRaises(UnknownName):
            with engine.trial():
                engine.tell(CA)
                engine.take_back(("none",))
        self.assertEqual(engine.given(), ROW)

    def within(self, engine, error):
        with engine.trial():
            engine.tell(CA)
            raise error

    def test_what_attempt_hands_over_and_returns(self):
        engine = Engine(ROW)
        for thing in (None, [1], object(), engine):
            self.assertIs(engine.attempt(lambda same: thing), thing)
        self.assertIs(engine.attempt(action=lambda same: same), engine)
        self.assertEqual(engine.attempt(lambda same: [same.tell(CA), len(same)]), [([CA], []), 3])
        self.assertEqual(len(engine), 2)

    def test_what_turned_returns_is_as_it_was(self):
        engine = Engine(ROW + [CA])
        engine.put_view("round", ROUND)
        engine.put_book("ways", WAYS)
        self.assertEqual(engine.turned(), ["round"])
        with engine.trial():
            engine.tell(("hut", "a"))
            self.assertEqual(engine.turned(), [])
        self.assertEqual(engine.turned(), ["round"])

    def test_ten_blocks_within_one_another(self):
        engine = Engine([])

        def deeper(same, left):
            same.tell(("p", "abcdefghijk"[left]))
            return same.attempt(lambda again: deeper(again, left - 1)) if left else len(same)

        self.assertEqual([deeper(engine.copy(), 9), engine.attempt(lambda same: deeper(same, 9)), len(engine)], [10, 10, 0])


class Logs(unittest.TestCase):
    def test_what_is_no_log(self):
        right = [("tell", CA), ("put", "w", WAYS), ("view", "v", ROUND), ("exchange", "w", Book([])), ("drop", "w"), ("unview", "v"), ("take", CA)]
        self.assertEqual(replayed(ROW, right).log(), right)
        self.assertEqual(replayed(log=right, store=ROW).given(), ROW)
        wrong = but(ODD, lambda thing: thing == [] and isinstance(thing, list)) + [tuple(right), {"tell": 1}, "tell"]
        wrong += [right + [thing] for thing in (
            None, (), [], "tell", ("tell",), ("tell", CA, CA), ["tell", CA], ("told", CA), ("put", "w"), ("put", "w", WAYS, WAYS), ("drop",),
            ("drop", "w", WAYS), ("exchange", "w"), ("view", "v"), ("unview",), ("unview", "v", ROUND), ("undo",), (["tell"], CA), (None, CA),
            ({}, CA), (True, CA), ("guard", GO), ("Tell", CA), (("tell",), CA),
        )]
        for log in wrong:
            refused(self, InvalidLog, log, replayed, ROW, log)
            refused(self, InvalidLog, log, replayed, log=log, store=ROW)

    def test_changes_that_cannot_be_made(self):
        bad = ("way", "A")
        for log, error, value in (
            ([("tell", bad)], InvalidFact, bad), ([("tell", CA), ("tell", CA)], TakenName, CA), ([("take", CA)], UnknownName, CA),
            ([("take", bad)], InvalidFact, bad), ([("put", "W", 7)], InvalidName, "W"), ([("put", "w", 7)], InvalidBook, 7),
            ([("put", "w", WAYS), ("put", "w", 7)], TakenName, "w"), ([("put", "w", WAYS), ("put", "z", WAYS)], TakenName, "step"),
            ([("drop", "w")], UnknownName, "w"), ([("exchange", "w", WAYS)], UnknownName, "w"), ([("view", "v", 7)], InvalidQuestion, 7),
            ([("view", "v", TWO), ("view", "v", TWO)], TakenName, "v"), ([("unview", bad)], UnknownName, bad),
            ([("take", CA), ("tell", bad)], UnknownName, CA), ([("drop", "w"), ("put", "W", 7)], UnknownName, "w"),
        ):
            refused(self, error, value, replayed, ROW, log)
        refuses_wrong(self, replayed, ["store", "log"], ["store", None], [ROW, []])
        for error, store in WRONG["store"]:
            refused(self, error, store, Engine, store)
            refused(self, error, store, Engine, store=store)
            self.assertIs(error, InvalidStore)
        self.assertEqual(Engine(store=ROW).given(), ROW)

    def test_lists_that_are_changed_afterwards_change_nothing(self):
        store, log = TOWN[::-1], [("put", "w", WAYS), ("view", "v", ROUND)]
        engine, again = Engine(store), replayed(store, log)
        store.clear()
        log.clear()
        engine.put_book("w", WAYS)
        engine.put_view("v", ROUND)
        for one in (engine, again):
            kept = [one.given(), one.closed(), one.seen("v"), one.log(), one.books(), one.views(), one.turned()]
            for thing in [one.given(), one.closed(), one.seen("v"), one.log(), one.books(), one.views(), one.turned()]:
                thing.append(("p",))
            came, went = one.tell(("p", "a"))
            came.clear()
            went.append(1)
            one.undo()
            self.assertEqual([one.given(), one.closed(), one.seen("v"), one.log(), one.books(), one.views(), one.turned()], kept)
            self.assertEqual([one.given(), len(one)], [sorted(TOWN), 13])


class Exchanged(unittest.TestCase):
    """[125]: alike books at any moment, and two books that are not alike."""

    def alike_ones(self, book, letters):
        """A book with other labels, its rules the other way round, one of them twice and one that follows added."""
        rules = [Rule(label, rule.head, rule.told, rule.pairs) for label, rule in zip(letters, reversed(book.rules()))]
        extra = [Rule(letters[len(rules)], rule.head, rule.told + rule.told[:1], rule.pairs) for rule in book.rules()[:1]]
        return Book(rules + extra)

    def test_alike_books_are_never_told_apart(self):
        for seed in range(12):
            chance = Chance(seed, names="ab", letters="XY")
            store = chance.store(3)
            one, other = Engine(store), Engine(store)
            plain = Plain(store)
            for _ in range(15):
                change = drawn_change(chance, plain)
                plain.change(change)
                twin = change
                if change[0] in ("put", "exchange"):
                    twin = (*change[:2], self.alike_ones(change[2], [change[1] * 3 + letter for letter in "abcd"]))
                    self.assertTrue(alike(change[2], twin[2]))
                self.assertEqual(make(one, change), make(other, twin))
                if chance.draw.random() < 0.3:
                    one.undo(), other.undo(), plain.undo()
                self.assertEqual([one.given(), one.closed(), len(one), one.turned()], [other.given(), other.closed(), len(other), other.turned()])
                for view in one.views():
                    self.assertEqual(one.seen(view), other.seen(view))
                top = Book([Rule("top", ("top", "X"), [("q", "X", "Y")], None, [("p", "Y")])])
                if stands_on(top, one.whole()) and stands_on(top, other.whole()):
                    self.assertEqual(meaning(one.whole() + top, one.given()), meaning(other.whole() + top, other.given()))
                self.assertEqual(can_fire([GO], one.closed()), can_fire([GO], other.closed()))
                facts = one.closed()
                if facts and len(one.given()) + len(one.whole()) + len(other.whole()) < 12:
                    fact = chance.draw.choice(facts)
                    self.assertEqual(self.by_facts(one, fact), self.by_facts(other, fact))

    def by_facts(self, engine, fact):
        lots = [tuple(item for item in lot if item[0] == "fact") for lot in supports(engine.whole(), engine.given(), fact)]
        return sorted(lot for lot in set(lots) if not any(set(less) < set(lot) for less in lots))

    def test_books_that_are_not_alike_differ_behind_their_parting(self):
        found = 0
        for seed in range(60):
            chance = Chance(seed, names="ab", kinds=(("p", 1), ("q", 2), ("s", 0)), letters="XY")
            one, other = chance.book(2, 2), chance.book(2, 2)
            value = parting(one, other)
            if value is not None:
                found += 1
                engines = [Engine([]), Engine([])]
                for engine, book in zip(engines, (one, other)):
                    engine.put_book("b", book)
                    for fact in value[0]:
                        engine.tell(fact)
                self.assertNotEqual(value[1] in engines[0], value[1] in engines[1])
        self.assertGreater(found, 30)


if __name__ == "__main__":
    unittest.main()
