"""The examples of the document as they stand there, each going on from those ahead of it."""

import unittest

from neverapart.books import alike, bodies, check_parting, follows, lean, needless, parting, reasons, within
from neverapart.closing import breach, closed, is_closed, rounds
from neverapart.deeds import Deed
from neverapart.denial import account, check_account, check_layering, layering, meaning, meaning_by, stands_on
from neverapart.disturb import disturb
from neverapart.firing import can_fire, ends, fire, parted, ring, run
from neverapart.goals import asked, calling_store, calls, can_call, form, instances, kinds_called, looks, matters, used
from neverapart.keeping import Net
from neverapart.live import Engine, replayed
from neverapart.lots import adds, cuts, state, supports
from neverapart.matching import best_order, matches, matches_with, partials, variables
from neverapart.papers import check_paper, count_papers, least_height, least_size, smallest, why
from neverapart.questions import answers, answers_under, core, parting_store, same_answers, same_under
from neverapart.rules import Book, Question, Rule
from neverapart.texts import book_text, fact_text, read_book, read_fact, read_rule, renamed, rule_text, store_text
from neverapart.weights import mix, weights

step = Rule("step", ("way", "X", "Y"), [("road", "X", "Y")])
far = Rule("far", ("way", "X", "Z"), [("way", "X", "Y"), ("way", "Y", "Z")])
ways = Book([step, far])
other = Rule("other", ("meet", "X", "Y"), [("way", "X", "Z"), ("way", "Y", "Z")], [("X", "Y")], [("foe", "X", "Y")])
town = [("road", "a", "b"), ("road", "b", "c"), ("road", "c", "a"), ("hut", "c")]
two = Question(["X", "Z"], [("road", "X", "Y"), ("road", "Y", "Z"), ("hut", "Z")])
row = [("road", "a", "b"), ("road", "b", "c")]
long = Rule("long", ("way", "X", "Z"), [("road", "X", "Y"), ("way", "Y", "Z")])
there = Question(["X"], [("road", "X", "Y"), ("road", "X", "Z")])
lost = Rule("lost", ("lost", "X", "Y"), [("hut", "X"), ("road", "Y", "Z")], None, [("way", "X", "Y")])
whole = ways + Book([lost])
go = Deed("go", 0, [("at", "X"), ("road", "X", "Y")], [0], [("at", "Y")])
tire = Deed("tire", 1, [("at", "X"), ("hut", "X")], [0], [("home", "X")])


class Examples(unittest.TestCase):
    maxDiff = None

    def test_section_3(self):
        self.assertEqual(
            [ways.labels(), ways.plain, len(ways.without("far")), ways.rule("step") == step,
             (ways + Book([Rule("r", ("rain",), [])])).labels()],
            [['step', 'far'], True, 1, True, ['step', 'far', 'r']])
        self.assertEqual(
            [step.pairs, Question(["X"], [("road", "X", "X")]) == Question(["X"], [("road", "X", "X")], [])], [[], True])

    def test_section_4(self):
        self.assertEqual(
            [rule_text(other), fact_text(("rain",)),
             read_rule("dry: dry(X) if hut(X), not rain") == Rule("dry", ("dry", "X"), [("hut", "X")], None, [("rain",)])],
            ['other: meet(X, Y) if way(X, Z), way(Y, Z), X unlike Y, not foe(X, Y)', 'rain', True])
        self.assertEqual(
            [read_fact("road(a, b)"), read_book(book_text(ways)) == ways, store_text([("road", "b", "a"), ("hut", "b")]),
             renamed([("road", "a", "b")], {"a": "b", "b": "a"})],
            [('road', 'a', 'b'), True, 'hut(b)\nroad(b, a)', [('road', 'b', 'a')]])

    def test_section_5(self):
        self.assertEqual(
            [variables(two), matches(two, town), matches_with(two, town, ("road", "a", "b")), partials(two, town),
             best_order(two, town)],
            [['X', 'Y', 'Z'], [('a', 'b', 'c')], [('a', 'b', 'c')], [3, 3, 1], [2, 1, 0]])

    def test_section_6(self):
        self.assertEqual(
            [rounds(ways, row), breach(ways, row), is_closed(ways, closed(ways, town)), len(closed(ways, town))],
            [[[('road', 'a', 'b'), ('road', 'b', 'c')], [('way', 'a', 'b'), ('way', 'b', 'c')], [('way', 'a', 'c')]],
             ('step', ('a', 'b')), True, 13])

    def test_section_7_papers(self):
        self.assertEqual(
            [why(ways, row, ("way", "a", "b")), least_height(ways, row, ("way", "a", "c")),
             least_size(ways, row, ("way", "a", "c")), why(ways, row, ("way", "c", "a"))],
            [('by', 'step', ('way', 'a', 'b'), [('given', ('road', 'a', 'b'))]), 2, 3, None])
        self.assertEqual(
            [count_papers(ways, row, ("way", "a", "c")), count_papers(ways, town, ("way", "a", "b")),
             count_papers(ways, row, ("hut", "a")),
             check_paper(ways, row, ("road", "a", "b"), ("given", ("road", "a", "b")))],
            [1, None, 0, True])
        self.assertEqual(smallest(ways, row, ("way", "a", "b")), why(ways, row, ("way", "a", "b")))

    def test_section_7_lots(self):
        self.assertEqual(supports(ways, row, ("way", "a", "b")), [[('fact', ('road', 'a', 'b')), ('rule', 'step')]])
        self.assertEqual(
            [len(cuts(ways, row, ("way", "a", "c"))), cuts(ways, row, ("hut", "a")),
             adds(ways, row, [("road", "c", "d"), ("way", "b", "d")], ("way", "a", "d"))],
            [4, [[]], [[('road', 'c', 'd')], [('way', 'b', 'd')]]])
        self.assertEqual(
            [state(ways, row, ("way", "a", "c"), [("fact", row[0])], []),
             state(ways, row, ("way", "a", "c"), [], [("hut", "a")]), state(ways, row, ("way", "c", "a"), [], row)],
            ['possible', 'sure', 'never'])

    def test_section_8(self):
        self.assertEqual(
            [follows(ways, long), alike(ways, Book([step, long])), within(Book([step, long]), ways),
             parting(ways, ways + Book([long]))],
            [True, False, True, None])
        self.assertEqual(
            [check_parting(ways, Book([step, long]), ([("way", "a", "b"), ("way", "b", "c")], ("way", "a", "c"))),
             needless(ways + Book([long])), lean(ways + Book([long])) == ways, len(bodies(far, [])),
             bodies(step, ["a"])[0], len(reasons(ways, far))],
            [True, [2], True, 5, (('a', 'a'), [('road', 'a', 'a')], ('way', 'a', 'a')), 5])

    def test_section_9(self):
        self.assertEqual(
            [answers(two, town), answers_under(ways, Question(["X"], [("way", "X", "X")]), town),
             core(there) == Question(["X"], [("road", "X", "Y")])],
            [[('a', 'c')], [('a',), ('b',), ('c',)], True])
        self.assertEqual(
            [same_answers(there, core(there)), parting_store(there, core(there)),
             same_under(ways, Question([], [("road", "X", "Y"), ("way", "X", "Y")]), Question([], [("road", "X", "Y")]))],
            [True, None, True])

    def test_section_10(self):
        self.assertEqual(
            [layering(whole), [fact for fact in meaning(whole, row + [("hut", "b")]) if fact[0] == "lost"],
             stands_on(Book([lost]), ways)],
            [[[('hut', 1), ('road', 2), ('way', 2)], [('lost', 2)]], [('lost', 'b', 'a'), ('lost', 'b', 'b')], True])
        self.assertEqual(
            [check_layering(whole, [[("road", 2)], [("way", 2)], [("hut", 1), ("lost", 2)]]),
             check_account(whole, row, account(whole, row)), check_account(Book([]), [], [])],
            [True, True, True])
        self.assertEqual(meaning_by(whole, row, layering(whole)), meaning(whole, row))

    def test_section_11(self):
        self.assertEqual(
            [can_fire([go, tire], town + [("at", "a")]), fire([go], town + [("at", "a")], "go", ("a", "b"))[0],
             run([go, tire], town + [("at", "a")], 9)[0]],
            [[('go', ('a', 'b'))], ('at', 'b'), [('go', ('a', 'b')), ('go', ('b', 'c')), ('tire', ('c',))]])
        self.assertEqual(
            [ends([go, tire], town + [("at", "a")], 9) == [run([go, tire], town + [("at", "a")], 9)[1]],
             len(ring([go], town + [("at", "a")], 9)[1]), parted([go, tire], town + [("at", "a")], 9)],
            [True, 3, None])
        self.assertEqual(
            [disturb(go, tire) is None, weights([go]), weights([tire]) is None, mix([go]) is None, mix([tire])],
            [False, None, False, False, None])

    def test_section_12(self):
        engine = Engine(row)
        first = [
            engine.put_book("ways", ways)[0], engine.put_view("round", Question(["X"], [("way", "X", "X")])),
            engine.tell(("road", "c", "a"))[1], engine.seen("round"), engine.turned()]
        second = [
            engine.exchange("ways", ways + Book([long])), engine.take_back(("road", "a", "b"))[0], len(engine), engine.seen("round"),
            engine.undo(), len(engine), engine.log()[0][:2]]
        self.assertEqual(
            [first, second],
            [[[('way', 'a', 'b'), ('way', 'a', 'c'), ('way', 'b', 'c')], None, [], [('a',), ('b',), ('c',)], ['round']],
             [([], []), [], 5, [], None, 12, ('put', 'ways')]])
        self.assertEqual(
            [replayed(row, engine.log()).closed() == engine.closed(), engine.redo(), engine.why(("way", "a", "b")),
             engine.attempt(lambda same: same.drop_book("ways")[1] == []), ("way", "b", "a") in engine],
            [True, None, None, False, True])

    def test_section_13(self):
        net = Net(ways)
        self.assertEqual(
            [net.tell(("road", "a", "b")), net.tell(("road", "b", "c"))[0], net.partials("far"), net.matches("far"), net.kept()],
            [([('road', 'a', 'b'), ('way', 'a', 'b')], []), [('road', 'b', 'c'), ('way', 'a', 'c'), ('way', 'b', 'c')], [3, 1],
             [('a', 'b', 'c')], 6])
        self.assertEqual(
            [net.beginnings()[1], net.needs(("way", "a", "c")), net.leans(("way", "a", "b")), net.leads(("way", "a", "c")),
             net.would(("road", "b", "c"))[1]],
            [([('way', 'A', 'B')], []), [('road', 'a', 'b'), ('road', 'b', 'c')], ['step'], [('far', ('a', 'b', 'c'))],
             [('road', 'b', 'c'), ('way', 'a', 'c'), ('way', 'b', 'c')]])
        self.assertEqual(
            [net.take(("road", "a", "b"))[1], net.turned()[0], net.turn([("road", "a", "b")], [("road", "b", "c")]), net.given()],
            [[('road', 'a', 'b'), ('way', 'a', 'b'), ('way', 'a', 'c')], (([('road', 'A', 'B')], []), [], [('a', 'b')]),
             ([('road', 'a', 'b'), ('way', 'a', 'b')], [('road', 'b', 'c'), ('way', 'b', 'c')]), [('road', 'a', 'b')]])
        nest = Net(Book([
            Rule("one", ("hen",), [("egg",)]), Rule("two", ("egg",), [("hen",)]), Rule("dawn", ("egg",), [("sun",)])]))
        self.assertEqual(
            [nest.tell(("sun",)), nest.take(("sun",)), len(nest), ("egg",) in nest],
            [([('egg',), ('hen',), ('sun',)], []), ([], [('egg',), ('hen',), ('sun',)]), 0, False])

    def test_section_14(self):
        goal = ("way", "a", "X")
        self.assertEqual(
            [asked(ways, goal, row), calls(ways, goal, row), form(("way", "Y", "Y")),
             instances(("road", "X", "X"), [("road", "a", "b"), ("road", "b", "b")])],
            [[('way', 'a', 'b'), ('way', 'a', 'c')],
             [('road', 'a', 'A'), ('road', 'b', 'A'), ('road', 'c', 'A'), ('way', 'a', 'A'), ('way', 'b', 'A'), ('way', 'c', 'A')],
             ('way', 'A', 'A'), [('road', 'b', 'b')]])
        self.assertEqual(
            [looks(ways, goal, town) == sorted(town)[1:], matters(ways, goal, row) == row, used(ways, goal, row) == row,
             can_call(ways, goal)],
            [True, True, True, [('road', 'a', 'A'), ('road', 'x', 'A'), ('way', 'a', 'A'), ('way', 'x', 'A')]])
        self.assertEqual(
            [kinds_called(ways, goal), len(calling_store(ways, goal, ("road", "x", "A"))) > 0,
             calling_store(ways, goal, ("road", "A", "B"))],
            [[('road', 2), ('way', 2)], True, None])


if __name__ == "__main__":
    unittest.main()
