"""A net, which keeps the matches of rules and of their beginnings while facts and rules come and go."""

from neverapart.beginnings import beginnings_of, matches_of_beginnings
from neverapart.closing import came_and_went, leads_of, leads_to, what_follows
from neverapart.errors import TakenName, UnknownName
from neverapart.forms import filled, is_fact, variables_of
from neverapart.joins import by_kind, met, met_numbers
from neverapart.needs import need_fact, need_plain_book, need_plain_rule, need_store
from neverapart.rules import Book


class Net:
    """Plain rules and given facts, and what follows from them, before and behind the last deed."""

    def __init__(self, book):
        need_plain_book(book)
        self._rules = book.rules()
        self._held = []
        self._known = _all_known(self._rules, [])
        # The rules, and what followed, ahead of the last deed.
        self._ahead = None

    def __eq__(self, other):
        return isinstance(other, Net) and self._rules == other._rules and self._held == other._held

    def __len__(self):
        return len(self._known)

    def __contains__(self, fact):
        return is_fact(fact) and fact in self._known

    def book(self):
        """The book of the rules as they stand."""
        return Book(self._rules)

    def given(self):
        """The given facts."""
        return list(self._held)

    def closed(self):
        """What follows from the given facts by the rules."""
        return list(self._known)

    def beginnings(self):
        """The beginnings of all rules, as they are written."""
        return list(beginnings_of(self._rules).values())

    def tell(self, fact):
        """Makes a fact given; returns which facts come and go, as all deeds do."""
        need_fact(fact)
        if fact in self._held:
            raise TakenName(fact)
        return self._turn(self._rules, self._held + [fact])

    def take(self, fact):
        """Makes a fact no longer given."""
        if not is_fact(fact) or fact not in self._held:
            raise UnknownName(fact)
        return self._turn(self._rules, _others(self._held, [fact]))

    def turn(self, told, taken):
        """Makes some facts given and others no longer given, all at once."""
        need_store(told)
        known = [fact for fact in told if fact in self._held]
        if known:
            raise TakenName(min(known))
        need_store(taken)
        unknown = [fact for fact in taken if fact not in self._held]
        if unknown:
            raise UnknownName(min(unknown))
        return self._turn(self._rules, _others(self._held, taken) + told)

    def add(self, rule):
        """Puts a rule in behind the others."""
        need_plain_rule(rule)
        if rule.label in self.book().labels():
            raise TakenName(rule.label)
        return self._turn(self._rules + [rule], self._held)

    def drop(self, label):
        """Takes the rule with a label out."""
        return self._turn(self.book().without(label).rules(), self._held)

    def matches(self, label):
        """The matches of the rule with a label in what follows."""
        rule = self.book().rule(label)
        return sorted(met(rule.told, rule.pairs, by_kind(self._known)))

    def partials(self, label):
        """How many matches the beginnings of the rule with a label have, from the first one on."""
        rule = self.book().rule(label)
        return met_numbers(rule.told, rule.pairs, by_kind(self._known))

    def leads(self, fact):
        """The labels and matches of rules that lead to a fact in what follows."""
        need_fact(fact)
        shelf = by_kind(self._known)
        return sorted([(rule.label, match) for rule in self._rules for match in _matches_to(rule, fact, shelf)])

    def kept(self):
        """How many matches all beginnings have together."""
        found = matches_of_beginnings(self._rules, by_kind(self._known))
        return sum([len(found[key]) for key in found])

    def turned(self):
        """The beginnings whose matches the last deed has changed, with those that came and those that went."""
        if self._ahead is None:
            return []
        rules, known = self._ahead
        before = matches_of_beginnings(rules, by_kind(known))
        after = matches_of_beginnings(self._rules, by_kind(self._known))
        written = beginnings_of(rules + self._rules)
        found = []
        for key in written:
            came, went = came_and_went(before.get(key, []), after.get(key, []))
            if came or went:
                found.append((written[key], came, went))
        return found

    def would(self, fact):
        """What taking a given fact, or telling any other one, would return."""
        need_fact(fact)
        held = _others(self._held, [fact]) if fact in self._held else self._held + [fact]
        return came_and_went(self._known, _all_known(self._rules, held))

    def needs(self, fact):
        """The given facts without each of which alone a fact would not follow."""
        self._need_known(fact)
        leads = leads_of(self._rules)
        return [one for one in self._held if not leads_to(leads, _others(self._held, [one]), fact)]

    def leans(self, fact):
        """The labels of the rules without each of which alone a fact would not follow."""
        self._need_known(fact)
        labels = [rule.label for rule in self._rules]
        lesser = [leads_of(self.book().without(label).rules()) for label in labels]
        return sorted([label for label, leads in zip(labels, lesser) if not leads_to(leads, self._held, fact)])

    def copy(self):
        """An independent net that is the same."""
        other = Net(self.book())
        other._held = list(self._held)
        other._known = list(self._known)
        other._ahead = self._ahead
        return other

    def _turn(self, rules, held):
        """Does a deed; the tuple of the facts that come and of those that go."""
        self._ahead = (self._rules, self._known)
        self._rules = rules
        self._held = sorted(held)
        self._known = _all_known(rules, held)
        return came_and_went(self._ahead[1], self._known)

    def _need_known(self, fact):
        need_fact(fact)
        if fact not in self._known:
            raise UnknownName(fact)


def _all_known(rules, held):
    return what_follows(leads_of(rules), held)


def _others(facts, without):
    return [fact for fact in facts if fact not in without]


def _matches_to(rule, fact, shelf):
    """The matches at which a rule leads to a fact."""
    terms = variables_of(rule.told)
    found = met(rule.told, rule.pairs, shelf)
    return [match for match in found if filled(rule.head, dict(zip(terms, match))) == fact]
