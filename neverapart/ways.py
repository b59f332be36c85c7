"""Rules followed backwards: the ways in which they lead to a fact.

A way is a tuple of the label of a rule and of the facts that its told patterns are, in their order, at a match. It
shows the match, as all variables of a rule stand in its told patterns.
"""

from neverapart.forms import bound, variables_of
from neverapart.joins import Plan, by_kind, chained, filled_rows, names_in


class Back:
    """A plain rule made ready to be followed from a fact to the facts that lead to it."""

    def __init__(self, rule):
        self.name = rule.label
        self.goal = rule.head
        self.needed = rule.told
        names = names_in([rule.head] + self.needed, rule.pairs)
        self.first = tuple(names)
        known = names + variables_of([rule.head])
        self.plan = Plan(chained([rule.head], self.needed)[1:], rule.pairs, known)

    def ways(self, fact, shelf):
        """The ways in which the rule leads to a fact from those of a shelf."""
        binding = bound(self.goal, fact, {})
        if binding is None:
            return []
        rows = self.plan.rows(self.first + tuple(binding.values()), [shelf for _ in self.needed])
        lists = [filled_rows(pattern, self.plan.terms, rows) for pattern in self.needed]
        return [(self.name, tuple([facts[at] for facts in lists])) for at in range(len(rows))]


class Ways:
    """The ways in which plain rules lead to facts from facts that are there."""

    def __init__(self, rules, facts):
        self.backs = [Back(rule) for rule in rules]
        self.shelf = by_kind(facts)

    def to_fact(self, fact):
        """All ways to a fact."""
        return [way for back in self.backs for way in back.ways(fact, self.shelf)]

    def behind(self, facts):
        """A dictionary of all ways to facts, and to each fact that stands in these ways, and so on."""
        found = {}
        waiting = list(facts)
        while waiting:
            here = waiting.pop()
            if here not in found:
                found[here] = self.to_fact(here)
                waiting.extend([part for _, told in found[here] for part in told])
        return found
