"""Matches of questions in a store, and the order in which to look for them."""

from itertools import permutations

from neverapart.forms import filled, variables_of
from neverapart.joins import by_kind, met, met_numbers
from neverapart.needs import need_fact, need_question, need_store


def variables(question):
    """The variables of a question in the order in which they first stand in its told patterns."""
    need_question(question)
    return variables_of(question.told)


def matches(question, store):
    """The matches of a question, each as the tuple of the names of its variables."""
    need_question(question)
    need_store(store)
    return sorted(met(question.told, question.pairs, by_kind(store)))


def count_matches(question, store):
    """The number of matches of a question."""
    return len(matches(question, store))


def matches_with(question, store, fact):
    """The matches of a question at which a told pattern is this fact."""
    need_question(question)
    need_store(store)
    need_fact(fact)
    told = question.told
    terms = variables_of(told)
    return [match for match in matches(question, store) if _stands(fact, told, dict(zip(terms, match)))]


def partials(question, store):
    """How many matches the first told patterns alone have, from one pattern to all."""
    need_question(question)
    need_store(store)
    return met_numbers(question.told, question.pairs, by_kind(store))


def best_order(question, store):
    """The first order of told patterns in which the sum of the partials is the least."""
    need_question(question)
    need_store(store)
    told, pairs, shelf = question.told, question.pairs, by_kind(store)
    # How many matches patterns have does not hang on their order, so one number for each choice of them is enough.
    numbers = [len(met(_chosen(told, choice), pairs, shelf)) for choice in range(1 << len(told))]
    orders = [list(order) for order in permutations(range(len(told)))]
    sums = [_sum_along(order, numbers) for order in orders]
    return orders[sums.index(min(sums))]


def _chosen(told, choice):
    """The patterns whose bits a choice has."""
    return [pattern for place, pattern in enumerate(told) if choice >> place & 1]


def _sum_along(order, numbers):
    choice = 0
    total = 0
    for place in order:
        choice = choice | 1 << place
        total = total + numbers[choice]
    return total


def _stands(fact, told, binding):
    return fact in [filled(pattern, binding) for pattern in told]
