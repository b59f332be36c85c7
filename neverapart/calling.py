"""Calls: the forms of patterns that are asked for, one behind the other, when a goal is."""

from neverapart.forms import (
    filled,
    form_of,
    is_name,
    is_variable,
    keeps_apart,
    kind_of,
    names_among,
    terms_of,
    variables_of,
)
from neverapart.givings import fresh_names, givings
from neverapart.joins import Plan, by_kind, names_in, names_of_rules


def calls_on(rules, goal, facts):
    """All calls of a goal, when these facts are all that follows.

    A pattern of a beginning is told of facts of the store and of the table. As that pattern was called then, they are
    just those of what follows that are instances of the call. So it is enough to look among all that follows.
    """
    shelf = by_kind(facts)
    found = {form_of(goal): True}
    waiting = list(found)
    while waiting:
        call = waiting.pop()
        for one in [form for rule in rules for form in _called_on(rule, call, shelf)]:
            if one not in found:
                found[one] = True
                waiting.append(one)
    return sorted(found)


def calling_stores(rules, goal):
    """A dictionary from all calls that a goal has on some store, as they are told, to such a store each.

    A further fact takes no call away. So any names may stand in a beginning: its told patterns are put in as facts.
    """
    names = names_among(names_of_rules(rules) + list(goal[1:]))
    most = max([len(variables_of(rule.told)) for rule in rules], default=0)
    # No call has more than 3 terms, so these are enough for the names in it and further ones for a rule.
    pool = fresh_names(3 + most, names)
    found = {form_of(goal): []}
    waiting = list(found)
    while waiting:
        call = waiting.pop(0)
        for one, facts in [row for rule in rules for row in _called_by_any(rule, call, names, pool)]:
            exchange = _exchange(one, pool)
            told = filled(one, exchange)
            if told not in found:
                found[told] = sorted({filled(fact, exchange) for fact in found[call] + facts})
                waiting.append(told)
    return found


class Link:
    """What a call makes of the variables of a head that has a common instance with it."""

    def __init__(self, head, call):
        binding = {}
        self.fits = kind_of(head) == kind_of(call) and _meets(head, call, binding)
        terms = variables_of([head])
        roots = {term: _root(term, binding) for term in terms}
        # The variables that are made one name, and those that have to be alike.
        self.given_names = {term: roots[term] for term in terms if is_name(roots[term])}
        self.alike = [(one, other) for one in terms for other in terms if one < other and roots[one] == roots[other]]


def _meets(head, call, binding):
    """Whether two patterns of a kind have a common instance; what this makes of their variables is put down."""
    for term, other in zip(head[1:], call[1:]):
        one = _root(term, binding)
        # A variable of the call is another one than that of the head with the same letters.
        two = _root((other,) if is_variable(other) else other, binding)
        if one != two:
            if is_name(one) and is_name(two):
                return False
            if is_name(one):
                binding[two] = one
            else:
                binding[one] = two
    return True


def _root(term, binding):
    while term in binding:
        term = binding[term]
    return term


def _called_on(rule, call, shelf):
    """The calls that beginnings of a rule for a call make, in facts of a shelf."""
    link = Link(rule.head, call)
    if not link.fits:
        return []
    names = names_in(rule.told, rule.pairs)
    known = names + list(link.given_names)
    first = tuple(names) + tuple(link.given_names.values())
    plan = Plan(rule.told, rule.pairs, known)
    rows = plan.rows(first, [])
    terms = known
    found = []
    for step, pattern in zip(plan.steps, rule.told):
        found.extend(_forms(pattern, terms, rows))
        rows = step.onward(rows, shelf.get(step.kind, []))
        terms = step.terms
        for one, other in link.alike:
            rows = _kept_alike(rows, terms, one, other)
    return found


def _forms(pattern, terms, rows):
    """The different forms of a pattern with the names of rows for those of its terms that have some."""
    known = [term for term in variables_of([pattern]) if term in terms]
    places = [terms.index(term) for term in known]
    lists = sorted({tuple([row[place] for place in places]) for row in rows})
    return [form_of(filled(pattern, dict(zip(known, names)))) for names in lists]


def _kept_alike(rows, terms, one, other):
    """The rows in which two terms, if both have names, have one name."""
    if one not in terms or other not in terms:
        return rows
    place, another = terms.index(one), terms.index(other)
    return [row for row in rows if row[place] == row[another]]


def _called_by_any(rule, call, names, pool):
    """The calls that beginnings of a rule for a call make with any names, and the facts of their told patterns."""
    link = Link(rule.head, call)
    if not link.fits:
        return []
    old = names + [name for name in pool if name in call[1:]]
    fresh = [name for name in pool if name not in call[1:]]
    found = []
    for many, pattern in enumerate(rule.told):
        told = rule.told[:many]
        terms = [term for term in variables_of(told) if term not in link.given_names]
        for row in givings(len(terms), old, fresh):
            binding = {term: link.given_names[term] for term in link.given_names}
            binding.update(dict(zip(terms, row)))
            if _is_beginning(rule, link, binding):
                found.append((form_of(filled(pattern, binding)), [filled(part, binding) for part in told]))
    return found


def _is_beginning(rule, link, binding):
    """Whether names that some variables have make no pair alike, and leave a common instance with the call."""
    both = [(one, other) for one, other in link.alike if one in binding and other in binding]
    return keeps_apart(rule.pairs, binding) and all([binding[one] == binding[other] for one, other in both])


def _exchange(call, pool):
    """Names of the pool exchanged for one another, so that those in a call are its first ones in their order."""
    own = {}
    for term in terms_of([call]):
        if term in pool:
            own[term] = True
    return dict(zip(list(own) + [name for name in pool if name not in own], pool))
