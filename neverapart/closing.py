"""What follows from a store by a plain book, and in which rounds."""

from neverapart.forms import filled, variables_of
from neverapart.joins import Plan, by_kind, chained, filled_rows, met, names_in
from neverapart.needs import need_plain_book, need_store


def closed(book, store):
    """The least closed store that has all facts of a store."""
    need_plain_book(book)
    need_store(store)
    return what_follows(leads_of(book.rules()), store)


def is_closed(book, store):
    """Whether a store has each fact to which a rule of a book leads at a match in it."""
    return breach(book, store) is None


def breach(book, store):
    """The first rule, and its least match, that lead to a fact which the store does not have; or None."""
    need_plain_book(book)
    need_store(store)
    there = {fact: True for fact in store}
    shelf = by_kind(store)
    for rule in book.rules():
        terms = variables_of(rule.told)
        for match in sorted(met(rule.told, rule.pairs, shelf)):
            if filled(rule.head, dict(zip(terms, match))) not in there:
                return rule.label, match
    return None


def rounds(book, store):
    """The facts of a store, then round by round those to which rules lead."""
    need_plain_book(book)
    need_store(store)
    return rounds_to(leads_of(book.rules()), store, None)


class Lead:
    """A rule made ready to lead, its denied patterns held against facts: to all it leads to, or to what is new."""

    def __init__(self, rule, against):
        self.pattern = rule.head
        self.barred = rule.denied
        self.against = against
        told, pairs = rule.told, rule.pairs
        names = names_in([rule.head] + told + self.barred, pairs)
        self.first = tuple(names)
        self.at_once = Plan(told, pairs, names)
        # New facts are looked up ahead of all others, so that few new ones make short work.
        orders = [chained([told[place]], told[:place] + told[place + 1:]) for place in range(len(told))]
        self.turns = [Plan(order, pairs, names) for order in orders]

    def facts(self, shelf, new):
        """The facts to which the rule leads on a shelf: all, or those that hang on a fact of the new one."""
        if new is None:
            return self._facts_by(self.at_once, [shelf for _ in self.at_once.steps])
        found = []
        for plan in self.turns:
            if plan.steps[0].kind in new:
                found.extend(self._facts_by(plan, [new] + [shelf for _ in plan.steps[1:]]))
        return found

    def _facts_by(self, plan, shelves):
        rows = plan.rows(self.first, shelves)
        for pattern in self.barred:
            facts = filled_rows(pattern, plan.terms, rows)
            rows = [row for row, fact in zip(rows, facts) if fact not in self.against]
        return filled_rows(self.pattern, plan.terms, rows)


def leads_of(rules):
    """Plain rules made ready to lead."""
    return [Lead(rule, {}) for rule in rules]


def leads_against(rules, facts):
    """Rules made ready to lead, their denied patterns held against facts."""
    against = {fact: True for fact in facts}
    return [Lead(rule, against) for rule in rules]


def rounds_to(leads, store, goal):
    """The rounds of a store, no further than to the one that has a goal; with no goal, all of them."""
    lists = [sorted(store)]
    there = {fact: True for fact in store}
    shelf = by_kind(lists[0])
    new = None
    while goal not in there:
        fresh = sorted({fact for lead in leads for fact in lead.facts(shelf, new) if fact not in there})
        if not fresh:
            break
        lists.append(fresh)
        new = by_kind(fresh)
        for kind in new:
            shelf[kind] = shelf.get(kind, []) + new[kind]
        for fact in fresh:
            there[fact] = True
    return lists


def what_follows(leads, store):
    """All facts that follow from a store."""
    return sorted([fact for facts in rounds_to(leads, store, None) for fact in facts])


def leads_to(leads, store, goal):
    """Whether a fact follows from a store."""
    return goal in rounds_to(leads, store, goal)[-1]


def came_and_went(before, after):
    """The tuple of the facts that are there now and were not, and of those that were and are not."""
    old = {fact: True for fact in before}
    new = {fact: True for fact in after}
    return [fact for fact in after if fact not in old], [fact for fact in before if fact not in new]
