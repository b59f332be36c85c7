"""[100] Deeds."""

import unittest

from neverapart.deeds import Deed
from neverapart.errors import InvalidDeed
from plainly import GO, NO_NAMES, ODD, TIRE, but, of, refused
from test_rules import NO_PAIRS, NO_TOLD

NAMES = ["label", "rank", "told", "takes", "puts", "pairs", "denied"]
TOLD = [("at", "X"), ("road", "X", "Y")]
RIGHT = ["go", 0, TOLD, [0], [("at", "Y")], [("X", "Y")], [("foe", "X")]]
NO_RANKS = but(ODD, lambda thing: type(thing) is int) + ["0", [0], (0,)]
NO_TAKES = but(ODD, lambda thing: thing == [] and isinstance(thing, list)) + [
    [2], [-1], [0, 0], [1, 0, 1], (0,), [True], [False], ["0"], [None], [[0]], [0, 2], 0, [10 ** 9], [0, -2], {0: 0},
]
NO_PUTS = NO_TOLD
LOOSE = [("at", "Q")]


class Deeds(unittest.TestCase):
    def test_properties_are_what_it_was_made_of(self):
        deed = Deed(*RIGHT)
        self.assertEqual([getattr(deed, name) for name in NAMES], RIGHT)
        self.assertEqual([Deed("d", -3, [], [], []).pairs, Deed("d", 5, [], [], []).denied], [[], []])
        self.assertEqual([Deed("d", rank, [], [], []).rank for rank in (-10 ** 20, -1, 0, 1, 10 ** 20)], [-10 ** 20, -1, 0, 1, 10 ** 20])
        self.assertEqual(Deed("d", 0, TOLD, [1, 0], []).takes, [1, 0])
        self.assertEqual(Deed("d", 0, TOLD * 2, [3, 0], [("s",), ("s",)]).puts, [("s",), ("s",)])

    def test_none_counts_as_an_empty_list(self):
        self.assertEqual(GO, Deed("go", 0, GO.told, [0], GO.puts, [], []))
        self.assertEqual(Deed("d", 0, [], [], [], pairs=None, denied=[]), Deed("d", 0, [], [], [], [], None))

    def test_arguments_by_name_in_any_order(self):
        self.assertEqual(Deed(**dict(reversed(list(zip(NAMES, RIGHT))))), Deed(*RIGHT))

    def test_each_argument_wrong_by_itself_and_with_wrong_ones_behind(self):
        lists = [NO_NAMES, NO_RANKS, NO_TOLD, NO_TAKES, NO_PUTS, NO_PAIRS, but(NO_TOLD, lambda thing: thing is None)]
        for place, things in enumerate(lists):
            for thing in things:
                refused(self, InvalidDeed, thing, Deed, *(RIGHT[:place] + [thing] + RIGHT[place + 1:]))
                for worse in (7, LOOSE, ()):
                    behind = RIGHT[:place] + [thing] + [worse] * (6 - place)
                    refused(self, InvalidDeed, thing, Deed, *behind)
                    refused(self, InvalidDeed, thing, Deed, **dict(reversed(list(zip(NAMES, behind)))))

    def test_variables_that_stand_in_no_told_pattern(self):
        pairs, denied = [("X", "Y"), ("Q", "a")], [("s",), ("foe", "Q")]
        refused(self, InvalidDeed, LOOSE, Deed, *RIGHT[:4], LOOSE)
        refused(self, InvalidDeed, LOOSE, Deed, *RIGHT[:4], LOOSE, pairs, denied)
        refused(self, InvalidDeed, pairs, Deed, *RIGHT[:5], pairs, denied)
        refused(self, InvalidDeed, pairs, Deed, *RIGHT[:5], pairs)
        refused(self, InvalidDeed, denied, Deed, *RIGHT[:6], denied)
        refused(self, InvalidDeed, denied, Deed, *RIGHT[:5], None, denied)
        puts = [("at", "X")]
        refused(self, InvalidDeed, puts, Deed, "d", 0, [], [], puts)

    def test_wrong_forms_come_ahead_of_loose_variables(self):
        for thing in but(NO_PAIRS, lambda thing: thing is None):
            refused(self, InvalidDeed, thing, Deed, *RIGHT[:4], LOOSE, thing, [("foe", "Q")])
        for thing in but(NO_TOLD, lambda thing: thing is None):
            refused(self, InvalidDeed, thing, Deed, *RIGHT[:4], LOOSE, [("Q", "X")], thing)

    def test_equal_and_unlike_deeds(self):
        self.assertEqual(Deed(*RIGHT), Deed(*RIGHT))
        for place, other in enumerate(["come", 1, TOLD[::-1], [1], [("at", "X")], [("Y", "X")], []]):
            unlike = Deed(*(RIGHT[:place] + [other] + RIGHT[place + 1:]))
            self.assertTrue(Deed(*RIGHT) != unlike)
            self.assertFalse(Deed(*RIGHT) == unlike)
        self.assertFalse(Deed("d", 0, TOLD, [0, 1], []) == Deed("d", 0, TOLD, [1, 0], []))
        for thing in but(ODD, of(Deed)) + [TIRE]:
            self.assertFalse(GO == thing)
            self.assertTrue(GO != thing)

    def test_lists_that_are_changed_afterwards_change_nothing(self):
        parts = [list(part) if isinstance(part, list) else part for part in RIGHT]
        deed = Deed(*parts)
        for thing in parts[2:] + [deed.told, deed.takes, deed.puts, deed.pairs, deed.denied]:
            thing.clear()
        self.assertEqual(deed, Deed(*RIGHT))
        self.assertEqual([getattr(deed, name) for name in NAMES], RIGHT)


if __name__ == "__main__":
    unittest.main()
