"""Beginnings of rules: their first told patterns, written with letters of their own, so that same ones are equal."""

from neverapart.forms import filled, is_variable, lettered, sides_of, variables_of
from neverapart.joins import met


def beginnings_of(rules):
    """A dictionary of all beginnings of rules, as they are written, from themselves as tuples of tuples."""
    found = {}
    for rule in rules:
        for many in range(1, 1 + len(rule.told)):
            patterns, pairs = _written(rule.told[:many], rule.pairs)
            found[(tuple(patterns), tuple(pairs))] = (patterns, pairs)
    return {key: found[key] for key in sorted(found)}


def matches_of_beginnings(rules, shelf):
    """A dictionary from the beginnings of rules, as tuples of tuples, to their matches in the facts of a shelf."""
    written = beginnings_of(rules)
    return {key: sorted(met(written[key][0], written[key][1], shelf)) for key in written}


def _written(patterns, pairs):
    """Patterns and those pairs whose variables stand in them, with the first letters for their variables."""
    terms = variables_of(patterns)
    letters = lettered(terms)
    ready = [pair for pair in pairs if all([term in terms for term in sides_of([pair]) if is_variable(term)])]
    sides = [[letters.get(term, term) for term in pair] for pair in ready]
    return [filled(pattern, letters) for pattern in patterns], sorted({tuple(sorted(two)) for two in sides})
