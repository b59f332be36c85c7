"""Whether books lead to the same on all stores, what parts them, and what can be left out of them."""

from neverapart.closing import leads_of, leads_to
from neverapart.deciding import deciding_bindings
from neverapart.errors import InvalidNames, InvalidRule
from neverapart.forms import filled, is_different_names, is_fact, is_store, keeps_apart, variables_of
from neverapart.givings import fresh_names, givings
from neverapart.joins import names_of_rules
from neverapart.needs import need_plain_book, need_plain_rule
from neverapart.papers import is_paper, lowest_paper
from neverapart.rules import Book, Rule
from neverapart.watching import is_sound


def bodies(rule, names):
    """The tuples of match, store and fact of all ways to give a rule names of a list, or fresh ones."""
    need_plain_rule(rule)
    if not is_different_names(names):
        raise InvalidNames(names)
    terms = variables_of(rule.told)
    fresh = fresh_names(len(terms), names + names_of_rules([rule]))
    bindings = [dict(zip(terms, match)) for match in givings(len(terms), names, fresh)]
    return sorted([_body(rule, binding) for binding in bindings if keeps_apart(rule.pairs, binding)])


def follows(book, rule):
    """Whether each store that is closed by a book is closed by a rule."""
    need_plain_book(book)
    need_plain_rule(rule)
    return _follows(book.rules(), rule)


def within(one, other):
    """Whether one book leads nowhere, on any store, where the other one does not."""
    need_plain_book(one)
    need_plain_book(other)
    return _within(one, other)


def alike(one, other):
    """Whether two books lead to the same on each store."""
    need_plain_book(one)
    need_plain_book(other)
    return _within(one, other) and _within(other, one)


def parting(one, other):
    """Any store and fact at which two books part, and do not with any fact less; None if they are alike."""
    need_plain_book(one)
    need_plain_book(other)
    return _parting(one.rules(), other.rules()) or _parting(other.rules(), one.rules())


def check_parting(one, other, value):
    """Whether any object is what `parting` may return for two books that are not alike."""
    need_plain_book(one)
    need_plain_book(other)
    if not isinstance(value, tuple) or len(value) != 2 or not is_store(value[0]) or not is_fact(value[1]):
        return False
    leads, others = leads_of(one.rules()), leads_of(other.rules())
    store, fact = value
    lesser = [[part for part in store if part != left] for left in store]
    parted = [less for less in lesser if leads_to(leads, less, fact) != leads_to(others, less, fact)]
    return leads_to(leads, store, fact) != leads_to(others, store, fact) and parted == []


def needless(book):
    """The positions of the rules that follow from all other rules of a book."""
    need_plain_book(book)
    rules = book.rules()
    return [place for place, rule in enumerate(rules) if _follows(rules[:place] + rules[place + 1:], rule)]


def lean(book):
    """The book without those rules, from the last to the first one, that follow from what is still there."""
    need_plain_book(book)
    rules = book.rules()
    many = len(rules)
    for place in reversed(range(many)):
        others = rules[:place] + rules[place + 1:]
        if _follows(others, rules[place]):
            rules = others
    return Book(rules)


def slim(book):
    """The book without those told patterns that its rules do not need."""
    need_plain_book(book)
    rules = book.rules()
    done = []
    for rule in rules:
        done.append(_slimmed(rule, done, rules[len(done) + 1:]))
    return Book(done)


def reasons(book, rule):
    """Any list of a match and a paper for each body of a rule; None if it does not follow from a book."""
    need_plain_book(book)
    need_plain_rule(rule)
    rules = book.rules()
    leads = leads_of(rules)
    found = []
    for match, store, fact in bodies(rule, names_of_rules(rules + [rule])):
        paper = lowest_paper(rules, leads, store, fact)
        if paper is None:
            return None
        found.append((match, paper))
    return found


def check_reasons(book, rule, value):
    """Whether any object is what `reasons` may return for a rule that follows from a book."""
    need_plain_book(book)
    need_plain_rule(rule)
    rules = book.rules()
    found = bodies(rule, names_of_rules(rules + [rule]))
    if not isinstance(value, list) or len(value) != len(found):
        return False
    return all([_is_reason(rules, body, part) for body, part in zip(found, value)])


def _is_reason(rules, body, value):
    match, store, fact = body
    if not isinstance(value, tuple) or len(value) != 2 or value[0] != match:
        return False
    return is_paper(rules, store, fact, value[1])


def _body(rule, binding):
    store = sorted({filled(pattern, binding) for pattern in rule.told})
    return tuple(binding.values()), store, filled(rule.head, binding)


def missing_body(rules, guards, rule):
    """A body of a rule that is sound by rules and guards, and whose fact does not follow; None if there is none."""
    leads = leads_of(rules)
    for binding in deciding_bindings(rule, names_of_rules([rule]), rules, guards, []):
        body = _body(rule, binding)
        if not leads_to(leads, body[1], body[2]) and is_sound(leads, guards, body[1]):
            return body
    return None


def _follows(rules, rule):
    return missing_body(rules, [], rule) is None


def _within(one, other):
    for rule in one.rules():
        if not _follows(other.rules(), rule):
            return False
    return True


def _parting(rules, others):
    """A least store, and a fact that follows from it by rules and not by others; None if there is none."""
    for rule in rules:
        body = missing_body(others, [], rule)
        if body is not None:
            return _lessened(leads_of(rules), body[1], body[2])
    return None


def _lessened(leads, store, fact):
    """A tuple of the fact and a least part of a store from which it follows."""
    kept = store
    for part in store:
        less = [other for other in kept if other != part]
        # What does not follow by the others does not follow by them from less either.
        if leads_to(leads, less, fact):
            kept = less
    return kept, fact


def _slimmed(rule, ahead, behind):
    """A rule of a book without those told patterns that it does not need there."""
    many = len(rule.told)
    for place in reversed(range(many)):
        less = _without_pattern(rule, place)
        if less is not None and _follows(ahead + [rule] + behind, less):
            rule = less
    return rule


def _without_pattern(rule, place):
    """What is left of a rule without a told pattern, if it is a rule."""
    told = rule.told
    try:
        return Rule(rule.label, rule.head, told[:place] + told[place + 1:], rule.pairs)
    except InvalidRule:
        return None
