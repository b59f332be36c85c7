"""[160] to [164] Editions, their spots, meetings and weaves, and trees of branches."""

import unittest

from neverapart.books import alike
from neverapart.branches import (
    Tree, behind, conflicts, edition, engine_of, left_out, meeting, steps, unlike_spots, weaves,
)
from neverapart.errors import (
    InvalidBook, InvalidEdition, InvalidFact, InvalidLog, InvalidName, InvalidNumber, NeverError, NotMeeting, NotPlain, TakenName, UnknownName,
)
from neverapart.live import Engine
from neverapart.questions import same_answers
from neverapart.rules import Book, Question, Rule
from neverapart.texts import book_text
from plainly import (
    DRY, FAR, GUARDINGS, LONG, NO_CHANGES, NO_NAMES, ODD, ROUND, ROW, STEP, TWO, WAYS, WRONG, Chance, but, of, refused, refuses_wrong,
)
from scripted import conditions
from test_live import drawn_change, make, Plain

AB, BC = ROW
BARE = ([], {}, {})
RAIN, SUN = ("rain",), ("sun",)
# Books under few names: some alike, some with labels in common, some neither.
SHELF = [
    Book([STEP, FAR]), Book([FAR, STEP]), Book([STEP, FAR, Rule("more", ("way", "X", "Z"), [("road", "X", "Y"), ("way", "Y", "Z")])]),
    Book([STEP]), Book([Rule("s", STEP.head, STEP.told)]), Book([Rule("far", ("p", "X"), [("q", "X", "Y")])]), Book([]),
]
LOOKS = [
    ROUND, Question(["X"], [("way", "X", "X"), ("way", "X", "Y")]), Question(["Y"], [("way", "Y", "Y")]), TWO, Question([], [("rain",)]),
    Question(["X", "X"], [("way", "X", "X")]),
]


def drawn_edition(chance, base=BARE):
    """An edition that came of another one."""
    draw = chance.draw
    given, books, views = sorted(base[0]), dict(base[1]), dict(base[2])
    for fact in (RAIN, SUN, AB):
        if draw.random() < 0.4:
            given = sorted({*given} ^ {fact})
    for name in "fgh":
        if draw.random() < 0.5:
            books.pop(name, None)
            book = draw.choice(SHELF)
            if draw.random() < 0.7 and not {*book.labels()} & {label for one in books.values() for label in one.labels()}:
                books[name] = book
    for name in "fv":
        if draw.random() < 0.5:
            views.pop(name, None)
            if draw.random() < 0.7:
                views[name] = draw.choice(LOOKS)
    return given, books, views


def at(one, spot):
    """What stands at a spot, None if nothing does."""
    return (True if spot[1] in one[0] else None) if spot[0] == "fact" else one[1 if spot[0] == "book" else 2].get(spot[1])


def like(this, that):
    if this is None or that is None:
        return this is that
    return this is that if this is True else alike(this, that) if isinstance(this, Book) else same_answers(this, that)


def all_spots(*editions):
    return sorted(
        {("fact", fact) for one in editions for fact in one[0]} | {("book", name) for one in editions for name in one[1]}
        | {("view", name) for one in editions for name in one[2]}, key=lambda spot: (spot[0], str(spot[1]), spot[1]))


def writing(thing):
    return book_text(thing) if isinstance(thing, Book) else f"({', '.join(thing.columns)}){conditions(thing.told, thing.pairs)}"


def met(base, one, other):
    """The conflicts, and the edition of [162] if there are none at spots."""
    torn, result = [], ([], {}, {})
    for spot in all_spots(base, one, other):
        here, this, that = at(base, spot), at(one, spot), at(other, spot)
        if not like(here, this) and not like(here, that) and not like(this, that):
            torn.append(spot)
            continue
        if like(here, this) and like(here, that):
            thing = here
        elif like(here, this):
            thing = that
        elif like(here, that):
            thing = this
        else:
            thing = this if this in (None, True) else sorted([this, that], key=writing)[0]
        if thing is not None:
            if spot[0] == "fact":
                result[0].append(spot[1])
            else:
                result[1 if spot[0] == "book" else 2][spot[1]] = thing
    labels = [label for book in result[1].values() for label in book.labels()]
    return torn or [("label", label) for label in sorted({label for label in labels if labels.count(label) > 1})], result


def any_change(one, chance):
    """A change that can be made behind an edition."""
    given, books, views = one
    draw = chance.draw
    word = draw.choice(["tell", "take", "put", "put", "drop", "view", "view", "unview", "exchange", "exchange"])
    free = [book for book in SHELF if not {*book.labels()} & {label for other in books.values() for label in other.labels()}]
    options = {
        "tell": [("tell", fact) for fact in [chance.pattern(["a"])] if fact not in given], "take": [("take", fact) for fact in given],
        "put": [("put", name, book) for name in "fg" if name not in books for book in free], "drop": [("drop", name) for name in books],
        "view": [("view", name, draw.choice(LOOKS)) for name in "vw" if name not in views], "unview": [("unview", name) for name in views],
        "exchange": [("exchange", name, book) for name in books for book in free + [books[name]]],
    }[word]
    return draw.choice(options) if options else None


def threes(many):
    for seed in range(many):
        chance = Chance(seed)
        base = drawn_edition(chance)
        yield base, drawn_edition(chance, base), drawn_edition(chance, base), chance


class Editions(unittest.TestCase):
    def test_editions_of_engines(self):
        for seed in range(40):
            chance = Chance(seed, names="ab", letters="XY")
            store = chance.store(3)
            engine, plain = Engine(store), Plain(store)
            for _ in range(12):
                change = drawn_change(chance, plain)
                plain.change(change)
                make(engine, change)
                if chance.draw.random() < 0.2:
                    engine.undo(), plain.undo()
                given, books, views = plain.state()
                expected = (sorted(given), books, views)
                self.assertEqual([edition(engine), edition(engine=engine)], [expected] * 2)
            again = engine_of(edition=expected)
            self.assertEqual([edition(again), again.closed()], [expected, engine.closed()])
            log = [("put", name, books[name]) for name in sorted(books)] + [("view", name, views[name]) for name in sorted(views)]
            self.assertEqual([again.log(), again.turned()], [log, []])
            self.assertEqual([again.seen(view) for view in again.views()], [engine.seen(view) for view in engine.views()])

    def test_what_is_no_engine_and_no_edition(self):
        for thing in but(ODD, of(Engine)) + [BARE, [Engine([])]]:
            refused(self, InvalidEdition, thing, edition, thing)
            refused(self, InvalidEdition, thing, edition, engine=thing)
        wrong = [(InvalidEdition, thing) for thing in [edition, Engine([])]]
        WRONG["edition"] += wrong
        for call, names, kinds, right in (
            (engine_of, ["edition"], ["edition"], [BARE]), (behind, ["edition", "log"], ["edition", "log"], [BARE, []]),
            (unlike_spots, ["one", "other"], ["edition"] * 2, [BARE] * 2), (steps, ["one", "other"], ["edition"] * 2, [BARE] * 2),
            (conflicts, ["base", "one", "other"], ["edition"] * 3, [BARE] * 3), (meeting, ["base", "one", "other"], ["edition"] * 3, [BARE] * 3),
            (weaves, ["edition", "one", "other"], ["edition", "log", "log"], [BARE, [], []]),
            (left_out, ["edition", "log", "position"], ["edition", "log", None], [BARE, [("tell", RAIN)], 0]),
        ):
            refuses_wrong(self, call, names, kinds, right)
        WRONG["edition"] = WRONG["edition"][:-2]

    def test_what_is_passed_and_returned_is_not_shared(self):
        given, books, views = [AB], {"w": WAYS}, {"v": ROUND}
        for make_one in (lambda: edition(engine_of((given, books, views))), lambda: behind((given, books, views), []),
                         lambda: meeting((given, books, views), (given, books, views), (given, books, views))):
            one = make_one()
            one[0].append(1), one[1].clear(), one[2].clear()
            self.assertEqual([(given, books, views), make_one()], [([AB], {"w": WAYS}, {"v": ROUND})] * 2)
        engine = engine_of((given, books, views))
        given.clear(), books.clear(), views.clear()
        self.assertEqual(edition(engine), ([AB], {"w": WAYS}, {"v": ROUND}))
        # The order of keys means nothing.
        two = {"b": Book([STEP]), "a": Book([FAR])}
        self.assertEqual(engine_of(([], two, {})).log(), [("put", "a", two["a"]), ("put", "b", two["b"])])


class Behind(unittest.TestCase):
    def test_at_once_and_in_parts(self):
        for seed in range(30):
            chance = Chance(seed, names="ab", letters="XY")
            store = sorted(chance.store(3))
            plain, log = Plain(store), []
            for _ in range(10):
                log.append(drawn_change(chance, plain))
                plain.change(log[-1])
            given, books, views = plain.state()
            whole = behind((store, {}, {}), log)
            self.assertEqual(whole, (sorted(given), books, views))
            for cut in range(len(log) + 1):
                self.assertEqual(behind(log=log[cut:], edition=behind((store, {}, {}), log[:cut])), whole)

    def test_changes_that_cannot_be_made(self):
        one = ([AB], {"w": Book([STEP])}, {"v": ROUND})
        denied = Book([FAR, DRY])
        bad = ("way", "A")
        for change, error, value in (
            (("tell", AB), TakenName, AB), (("tell", bad), InvalidFact, bad), (("take", BC), UnknownName, BC), (("put", "w", 7), TakenName, "w"),
            (("put", "W", 7), InvalidName, "W"), (("put", "z", denied), NotPlain, denied), (("put", "z", WAYS), TakenName, "step"),
            (("drop", "v"), UnknownName, "v"), (("exchange", "w", 7), InvalidBook, 7), (("unview", "w"), UnknownName, "w"),
        ):
            for log in ([change], [("tell", RAIN), change], [change, ("tell", bad)], [change, ("drop", None)]):
                refused(self, error, value, behind, one, log)
                refused(self, error, value, left_out, one, log, None)
        self.assertEqual(behind(one, [("exchange", "w", WAYS)])[1], {"w": WAYS})


class Spots(unittest.TestCase):
    def test_unlike_spots(self):
        lengths = set()
        for one, other, third, _ in threes(60):
            for this, that in ((one, other), (other, third), (one, one)):
                expected = [spot for spot in all_spots(this, that) if not like(at(this, spot), at(that, spot))]
                self.assertEqual([unlike_spots(this, that), unlike_spots(other=this, one=that)], [expected, expected])
                self.assertEqual(expected, sorted(expected))
                lengths.add(len(expected))
        self.assertGreater(len(lengths), 4)
        self.assertEqual(unlike_spots(([], {"w": SHELF[0]}, {"v": LOOKS[0]}), ([], {"w": SHELF[2]}, {"v": LOOKS[1]})), [])
        self.assertEqual(unlike_spots(([], {"w": WAYS}, {"w": TWO}), BARE), [("book", "w"), ("view", "w")])

    def test_steps(self):
        order = ["take", "tell", "drop", "put", "unview", "view"]
        for one, other, third, _ in threes(60):
            for this, that in ((one, other), (other, third), (third, one), (one, one)):
                changes = steps(this, that)
                self.assertEqual(behind(this, changes), that)
                self.assertEqual(steps(other=that, one=this), changes)
                places = [(order.index(change[0]), change[1]) for change in changes]
                self.assertEqual(places, sorted(places))
                unequal = {spot for spot in all_spots(this, that) if at(this, spot) != at(that, spot)}
                kinds = {"ta": "fact", "te": "fact", "dr": "book", "pu": "book", "un": "view", "vi": "view"}
                self.assertEqual({(kinds[change[0][:2]], change[1]) for change in changes}, unequal)
        self.assertEqual(steps(([], {"w": WAYS}, {}), ([], {"w": Book([FAR, STEP])}, {})), [("drop", "w"), ("put", "w", Book([FAR, STEP]))])
        self.assertEqual(steps(([AB, SUN], {}, {"v": TWO}), ([RAIN, SUN], {}, {"v": ROUND})), [("take", AB), ("tell", RAIN), ("unview", "v"), ("view", "v", ROUND)])
        # Labels go over to other names.
        self.assertEqual([change[:2] for change in steps(([], {"a": WAYS}, {}), ([], {"b": WAYS}, {}))], [("drop", "a"), ("put", "b")])


class Meetings(unittest.TestCase):
    def test_conflicts_and_meetings(self):
        seen = {"book": 0, "view": 0, "label": 0, "none": 0}
        for base, one, other, _ in threes(400):
            torn, result = met(base, one, other)
            self.assertEqual([conflicts(base, one, other), conflicts(other=one, one=other, base=base)], [torn, torn])
            for spot in torn or [("none",)]:
                seen[spot[0]] += 1
            for this, that in ((one, other), (other, one)):
                if torn:
                    with self.assertRaises(NotMeeting) as caught:
                        meeting(base, this, that)
                    self.assertEqual(caught.exception.conflicts, torn)
                else:
                    self.assertEqual(meeting(other=that, base=base, one=this), result)
                    self.assertEqual(meeting(base, result, that), result)
        self.assertTrue(min(seen.values()) > 10, seen)

    def test_alike_books_and_questions_in_their_places(self):
        met_both = 0
        twins = [[SHELF[0], SHELF[1], SHELF[2]], [SHELF[3], SHELF[4]]], [LOOKS[:3], LOOKS[5:] + [Question(["Y", "Y"], [("way", "Y", "Y")])]]
        for base, one, other, chance in threes(200):
            bent = []
            for given, books, views in (base, one, other):
                for things, groups in ((books, twins[0]), (views, twins[1])):
                    for name in list(things):
                        for group in groups:
                            if things[name] in group and chance.draw.random() < 0.6:
                                things[name] = chance.draw.choice(group)
                labels = [label for book in books.values() for label in book.labels()]
                bent.append((given, books, views) if len(labels) == len(set(labels)) else None)
            if None in bent:
                continue
            before, _ = met(base, one, other)
            after, _ = met(*bent)
            self.assertEqual([spot for spot in before if spot[0] != "label"], [spot for spot in after if spot[0] != "label"])
            self.assertEqual(conflicts(*bent), after)
            if not before and not after:
                met_both += 1
                self.assertEqual(unlike_spots(meeting(base, one, other), meeting(*bent)), [])
        self.assertGreater(met_both, 30)

    def test_which_of_two_alike_ones_stands(self):
        less, more = Book([FAR, STEP]), Book([STEP, FAR])
        for one, other in ((less, more), (more, less)):
            self.assertEqual(meeting(BARE, ([], {"w": one}, {}), ([], {"w": other}, {}))[1]["w"], less)
            # What the base has stands, though another writing is less.
            self.assertEqual(meeting(([], {"w": more}, {}), ([], {"w": one}, {}), ([], {"w": other}, {}))[1]["w"], more)
        one, other = Question(["A"], [("p", "A")]), Question(["B"], [("p", "B"), ("p", "B")])
        for this, that in ((one, other), (other, one)):
            self.assertEqual(meeting(BARE, ([], {}, {"v": this}), ([], {}, {"v": that}))[2]["v"], one)
        self.assertEqual(meeting(([AB], {"w": WAYS}, {"v": TWO}), BARE, BARE), BARE)
        self.assertEqual(meeting(([AB], {}, {}), BARE, ([AB, BC], {}, {})), ([BC], {}, {}))

    def test_labels_only_where_nothing_conflicts_at_spots(self):
        first, second = ([], {"a": Book([STEP])}, {}), ([], {"b": Book([Rule("step", ("p",), []), FAR])}, {"v": TWO})
        self.assertEqual([conflicts(BARE, first, second), conflicts(BARE, second, first)], [[("label", "step")]] * 2)
        torn = ([], first[1], {"v": ROUND})
        self.assertEqual(conflicts(BARE, torn, second), [("view", "v")])
        with self.assertRaises(NotMeeting) as caught:
            meeting(BARE, first, second)
        self.assertEqual(caught.exception.conflicts, [("label", "step")])
        third = ([], {"c": Book([FAR]), "d": Book([STEP])}, {})
        self.assertEqual(conflicts(BARE, third, second), [("label", "far"), ("label", "step")])


class Weaves(unittest.TestCase):
    def logs(self, many, most=3):
        """Two logs each of which can be made alone, and now and then a change that cannot."""
        for seed in range(many):
            chance = Chance(seed, names="a", kinds=(("p", 1), ("s", 0)), letters="X")
            start, logs = drawn_edition(chance), []
            for _ in range(2):
                here, log = start, []
                for _ in range(chance.draw.randint(0, most)):
                    change = any_change(here, chance)
                    if change:
                        log.append(change)
                        here = self.ends(here, [change])
                logs.append(log)
            if seed % 8 == 1:
                start = (start[0], {"f": WAYS}, start[2])
                logs = [[("exchange", "f", chance.draw.choice(SHELF))] + [one for one in log if one[0] in ("view", "tell")] for log in logs]
            if seed % 7 == 0:
                logs[0].insert(0, chance.draw.choice([("tell", AB), ("drop", "f"), ("unview", "v"), ("exchange", "g", Book([FAR])), ("take", 7)]))
            yield start, *logs

    def all_weaves(self, one, other):
        if not one or not other:
            return [one + other]
        return [one[:1] + rest for rest in self.all_weaves(one[1:], other)] + [other[:1] + rest for rest in self.all_weaves(one, other[1:])]

    def ends(self, start, log):
        try:
            return edition(self.led(start, log))
        except NeverError:
            return None

    def led(self, start, log):
        engine = engine_of(start)
        for change in log:
            make(engine, change)
        return engine

    def test_all_weaves(self):
        seen = {0: 0, 1: 0, 2: 0}
        for start, one, other in self.logs(200):
            found = weaves(start, one, other)
            every = self.all_weaves(one, other)
            ends = [self.ends(start, weave) for weave in every]
            if None in ends or any(end != ends[0] for end in ends):
                self.assertTrue(all(weave in every for weave in found))
                if len(found) == 1:
                    self.assertIsNone(self.ends(start, found[0]))
                else:
                    one_end, other_end = [self.ends(start, weave) for weave in found]
                    self.assertTrue(len(found) == 2 and one_end is not None and other_end is not None and one_end != other_end)
            else:
                self.assertIsNone(found)
            seen[len(found or [])] += 1
        self.assertTrue(min(seen.values()) > 3, seen)

    def test_some_weaves(self):
        put, drop = ("put", "w", WAYS), ("drop", "w")
        self.assertEqual(weaves(BARE, [], []), None)
        self.assertEqual(weaves(one=[("tell", RAIN)], other=[("tell", SUN)], edition=BARE), None)
        self.assertEqual(weaves(([], {"w": WAYS}, {}), [("exchange", "w", Book([STEP]))], [("exchange", "w", Book([FAR]))]) is None, False)
        self.assertEqual(len(weaves(([], {"w": WAYS}, {}), [("exchange", "w", Book([STEP]))], [("exchange", "w", Book([FAR]))])), 2)
        self.assertEqual(weaves(BARE, [put, drop], [("tell", RAIN)]), None)
        self.assertEqual(len(weaves(BARE, [put], [("put", "v", Book([STEP]))])), 1)
        self.assertEqual(weaves(BARE, [("tell", ("way", "A"))], []), [[("tell", ("way", "A"))]])
        # Four and four; alike books are not equal ones.
        tells = [("tell", ("p", one, other)) for one in "ab" for other in "abcd"]
        self.assertIsNone(weaves(BARE, tells[:4], tells[4:]))
        both = [("exchange", "w", SHELF[0])], [("exchange", "w", SHELF[1])]
        self.assertEqual(len(weaves(([], {"w": WAYS}, {}), *both)), 2)

    def test_left_out(self):
        out = stays = 0
        for start, log, _ in self.logs(150, 6):
            if self.ends(start, log) is None:
                with self.assertRaises(NeverError):
                    left_out(start, log, 0)
                continue
            for at_place in range(len(log)):
                less = log[:at_place] + log[at_place + 1:]
                fails = [place for place in range(len(less)) if self.ends(start, less[:place + 1]) is None]
                expected = less if not fails else fails[0] + (fails[0] >= at_place)
                self.assertEqual(left_out(position=at_place, log=log, edition=start), expected)
                out, stays = out + (expected == less), stays + (expected != less)
            for wrong in ODD + [len(log), -1, len(log) + 3]:
                if type(wrong) is not int or not 0 <= wrong < len(log):
                    refused(self, InvalidNumber, wrong, left_out, start, log, wrong)
        self.assertTrue(out > 40 and stays > 8, (out, stays))


class Forest:
    """A tree as [164] tells it: logs and nothing else."""

    def __init__(self, store):
        self.store, self.logs, self.forked = sorted(store), {"main": []}, {}

    def edition(self, branch):
        return edition(Weaves().led((self.store, {}, {}), self.logs[branch]))

    def base(self, one, other):
        ways = {one: len(self.logs[one])}
        while other not in ways:
            for name, (parent, moment) in self.forked.items():
                for here, there in ((name, parent), (parent, name)):
                    if here in ways and there not in ways:
                        ways[there] = min(ways[here], moment)
        return ways[other]


class Trees(unittest.TestCase):
    def same(self, tree, forest):
        self.assertEqual(tree.branches(), sorted(forest.logs))
        for name, log in forest.logs.items():
            self.assertEqual([tree.log(name), tree.log(branch=name)], [log, log])
            self.assertEqual(tree.edition(name), forest.edition(name))

    def test_drawn_trees(self):
        joined = refusals = deep = nothing = 0
        for seed in range(100):
            chance = Chance(seed, names="a", kinds=(("p", 1), ("s", 0), ("t", 0), ("u", 0)), letters="X")
            store = chance.store(2)
            tree, forest = Tree(store), Forest(store)
            draw = chance.draw
            for _ in range(14):
                one, other = draw.choice(sorted(forest.logs)), draw.choice(sorted(forest.logs))
                way = draw.random()
                if way < 0.2 and len(forest.logs) < 6:
                    name, moment = "bcdefg"[len(forest.logs)], draw.randint(0, len(forest.logs[one]))
                    self.assertIsNone(tree.fork(one, moment, name))
                    forest.logs[name], forest.forked[name] = forest.logs[one][:moment], (one, moment)
                elif way < 0.4:
                    base = forest.base(one, other)
                    start = edition(Weaves().led((forest.store, {}, {}), forest.logs[one][:base]))
                    torn, result = met(start, forest.edition(one), forest.edition(other))
                    if torn:
                        refusals += 1
                        with self.assertRaises(NotMeeting) as caught:
                            tree.join(one, other)
                        self.assertEqual(caught.exception.conflicts, torn)
                    else:
                        expected = steps(forest.edition(one), result)
                        joined, nothing = joined + (expected != []), nothing + (expected == [])
                        self.assertEqual(tree.join(one=one, other=other), expected)
                        forest.logs[one] = forest.logs[one] + expected
                        self.assertEqual(tree.join(one, other), [])
                else:
                    change = any_change(forest.edition(one), chance)
                    if change:
                        self.assertIsNone(tree.change(change=change, branch=one))
                        forest.logs[one] = forest.logs[one] + [change]
                self.same(tree, forest)
            for one in forest.logs:
                for other in forest.logs:
                    expected = forest.base(one, other)
                    self.assertEqual([tree.base(one, other), tree.base(other=one, one=other)], [expected] * 2)
                    self.assertEqual(forest.logs[one][:expected], forest.logs[other][:expected])
                    deep += one in forest.forked and forest.forked[one][0] in forest.forked and other not in forest.forked
        self.assertTrue(joined > 30 and refusals > 5 and deep > 10 and nothing > 10, (joined, refusals, deep, nothing))

    def test_forks_of_forks(self):
        tree = Tree([RAIN])
        for fact in (SUN, AB, BC):
            tree.change("main", ("tell", fact))
        tree.fork("main", 2, "b")
        tree.fork("b", 2, "c")
        tree.fork(name="d", moment=1, branch="c")
        tree.change("c", ("tell", ("p",)))
        tree.fork("c", 3, "e")
        tree.fork("main", 0, "z")
        expected = {("main", "b"): 2, ("c", "main"): 2, ("d", "main"): 1, ("e", "main"): 2, ("e", "c"): 3, ("e", "d"): 1, ("z", "e"): 0, ("z", "z"): 0, ("e", "e"): 3}
        self.assertEqual({pair: tree.base(*pair) for pair in expected}, expected)
        self.assertEqual([tree.branches(), tree.edition("d"), tree.log("z")], [["b", "c", "d", "e", "main", "z"], ([RAIN, SUN], {}, {}), []])

    def test_joins_both_ways_and_with_itself(self):
        tree = Tree([])
        tree.change("main", ("put", "w", Book([STEP])))
        tree.fork("main", 1, "b")
        tree.change("main", ("exchange", "w", WAYS))
        tree.change("b", ("tell", RAIN))
        tree.change("main", ("view", "v", TWO))
        tree.change("b", ("view", "v", TWO))
        self.assertEqual(tree.join("b", "main"), [("drop", "w"), ("put", "w", WAYS)])
        self.assertEqual(tree.join("main", "b"), [("tell", RAIN)])
        self.assertEqual([tree.edition("main"), tree.join("main", "main"), tree.base("main", "b")], [tree.edition("b"), [], 1])
        tree.change("main", ("exchange", "w", Book([FAR])))
        tree.change("b", ("exchange", "w", Book([LONG])))
        logs = [tree.log("main"), tree.log("b")]
        for one, other in (("main", "b"), ("b", "main")):
            with self.assertRaises(NotMeeting) as caught:
                tree.join(one, other)
            self.assertEqual(caught.exception.conflicts, [("book", "w")])
        self.assertEqual([tree.log("main"), tree.log("b")], logs)

    def test_wrong_arguments(self):
        refuses_wrong(self, Tree, ["store"], ["store"], [[]])
        tree = Tree(ROW)
        tree.change("main", ("tell", RAIN))
        tree.fork("main", 1, "b")
        for thing in but(ODD, lambda one: one in ("main", "b") and isinstance(one, str)) + NO_NAMES + ["c", ["main"], ("b",)]:
            for call in (tree.log, tree.edition):
                refused(self, UnknownName, thing, call, thing)
                refused(self, UnknownName, thing, call, branch=thing)
            for call in (tree.base, tree.join):
                refused(self, UnknownName, thing, call, thing, "main")
                refused(self, UnknownName, thing, call, thing, {1: 1})
                refused(self, UnknownName, thing, call, "main", thing)
                refused(self, UnknownName, thing, call, other=thing, one="b")
            for worse in (("tell", SUN), None):
                refused(self, UnknownName, thing, tree.change, thing, worse)
                refused(self, UnknownName, thing, tree.fork, thing, worse, worse)
        for thing in NO_CHANGES + GUARDINGS + but(ODD, lambda one: False):
            refused(self, InvalidLog, thing, tree.change, "main", thing)
            refused(self, InvalidLog, thing, tree.change, change=thing, branch="b")
        for thing in ODD + [2, 3, -1]:
            if type(thing) is not int or not 0 <= thing <= 1:
                for name in ("c", "b", None):
                    refused(self, InvalidNumber, thing, tree.fork, "main", thing, name)
        for thing in NO_NAMES:
            refused(self, InvalidName, thing, tree.fork, "main", 0, thing)
            refused(self, InvalidName, thing, tree.fork, name=thing, moment=1, branch="b")
        refused(self, TakenName, "b", tree.fork, "b", 0, "b")
        refused(self, TakenName, "main", tree.fork, "b", 0, "main")
        refused(self, TakenName, RAIN, tree.change, "b", ("tell", RAIN))
        refused(self, InvalidBook, None, tree.change, "b", ("put", "w", None))
        refused(self, UnknownName, "w", tree.change, "b", ("drop", "w"))
        self.assertEqual([tree.branches(), tree.log("main"), tree.log("b")], [["b", "main"], [("tell", RAIN)], [("tell", RAIN)]])

    def test_nothing_is_shared(self):
        store = [RAIN]
        tree = Tree(store)
        store.clear()
        tree.change("main", ("tell", SUN))
        tree.fork("main", 1, "b")
        tree.branches().clear(), tree.log("b").clear(), tree.edition("b")[0].clear(), tree.edition("b")[1].update(w=1)
        tree.change("b", ("tell", AB))
        tree.join("main", "b").clear()
        self.assertEqual([tree.log("main"), tree.edition("b"), tree.branches()], [[("tell", SUN), ("tell", AB)], ([RAIN, AB, SUN], {}, {}), ["b", "main"]])
        self.assertEqual(tree.log("b"), [("tell", SUN), ("tell", AB)])


if __name__ == "__main__":
    unittest.main()
