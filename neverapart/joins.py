"""Meeting patterns with facts: row by row, each pattern is looked up by the terms whose names are known by then.

A row is a tuple of names for terms, in the order in which the terms became known. Names that stand in patterns or
pairs are terms like variables, known from the beginning.
"""

from neverapart.forms import kind_of, names_among, sides_of, terms_of, variables_of


class Step:
    """How one pattern is met when the names of some terms are known."""

    def __init__(self, pattern, terms, pairs):
        self.kind = kind_of(pattern)
        self.olds = []
        self.places = []
        self.news = []
        self.twins = []
        self.terms = list(terms)
        for column in range(1, len(pattern)):
            term = pattern[column]
            if term in terms:
                self.olds.append(column)
                self.places.append(terms.index(term))
            elif term in self.terms:
                self.twins.append((column, pattern.index(term, 1)))
            else:
                self.news.append(column)
                self.terms.append(term)
        ready = [pair for pair in pairs if _knows(self.terms, pair) and not _knows(terms, pair)]
        self.apart = _places_of_pairs(self.terms, ready)

    def onward(self, rows, facts):
        """All rows with a fact each that goes with them, the names of new terms behind."""
        if not rows:
            return rows
        shelf = {}
        for fact in facts:
            if all([fact[one] == fact[other] for one, other in self.twins]):
                key = tuple([fact[column] for column in self.olds])
                shelf.setdefault(key, []).append(tuple([fact[column] for column in self.news]))
        places = self.places
        longer = [row + more for row in rows for more in shelf.get(tuple([row[place] for place in places]), [])]
        return _kept_apart(longer, self.apart)


class Plan:
    """How patterns are met one behind the other, when the names of some terms are known at first."""

    def __init__(self, patterns, pairs, known):
        self.apart = _places_of_pairs(known, [pair for pair in pairs if _knows(known, pair)])
        self.steps = []
        self.terms = list(known)
        for pattern in patterns:
            step = Step(pattern, self.terms, pairs)
            self.steps.append(step)
            self.terms = step.terms

    def rows(self, first, shelves):
        """All rows that go on from a first one, with facts of a kind from the shelf for each pattern."""
        rows = _kept_apart([first], self.apart)
        for step, shelf in zip(self.steps, shelves):
            rows = step.onward(rows, shelf.get(step.kind, []))
        return rows


def by_kind(facts):
    """A dictionary from kinds to the lists of the facts."""
    shelf = {}
    for fact in facts:
        shelf.setdefault(kind_of(fact), []).append(fact)
    return shelf


def names_in(patterns, pairs):
    """The names that stand in patterns and pairs, ascending."""
    return names_among(terms_of(patterns) + sides_of(pairs))


def names_of_rules(rules):
    """The names that stand in rules, ascending."""
    return names_among([name for rule in rules for name in names_in([rule.head] + rule.told + rule.denied, rule.pairs)])


def met(told, pairs, shelf):
    """All matches of told patterns and pairs, as tuples of the names of the variables, in no order."""
    names = names_in(told, pairs)
    plan = Plan(told, pairs, names)
    return [row[len(names):] for row in plan.rows(tuple(names), [shelf for _ in told])]


def met_numbers(told, pairs, shelf):
    """How many matches the first told patterns alone have, from one pattern to all."""
    names = names_in(told, pairs)
    rows = [tuple(names)]
    numbers = []
    for step in Plan(told, pairs, names).steps:
        rows = step.onward(rows, shelf.get(step.kind, []))
        numbers.append(len(rows))
    return numbers


def filled_rows(pattern, terms, rows):
    """What a pattern becomes with the names of each row, which are those of the terms."""
    places = [terms.index(term) for term in pattern[1:]]
    return [pattern[:1] + tuple([row[place] for place in places]) for row in rows]


def chained(begun, patterns):
    """Begun patterns, and others behind them in an order that brings few new variables at a time."""
    order = list(begun)
    left = list(patterns)
    while left:
        known = variables_of(order)
        news = [len([term for term in variables_of([pattern]) if term not in known]) for pattern in left]
        place = news.index(min(news))
        order.append(left[place])
        left = left[:place] + left[place + 1:]
    return order


def _knows(terms, pair):
    return pair[0] in terms and pair[1] in terms


def _places_of_pairs(terms, pairs):
    return [(terms.index(one), terms.index(other)) for one, other in pairs]


def _kept_apart(rows, apart):
    """The rows in which the names at no two such places are alike."""
    for one, other in apart:
        rows = [row for row in rows if row[one] != row[other]]
    return rows
