"""Answers to questions, and whether two questions have the same ones in each store."""

from neverapart.closing import leads_of, what_follows
from neverapart.errors import InvalidQuestion
from neverapart.forms import filled, keeps_apart, variables_of
from neverapart.givings import fresh_names, givings
from neverapart.joins import by_kind, met, names_in, names_of_rules
from neverapart.needs import need_plain_book, need_question, need_store
from neverapart.rules import Question


def answers(question, store):
    """The names of the columns at each match in a store."""
    need_question(question)
    need_store(store)
    return answers_on(question, by_kind(store))


def answers_under(book, question, store):
    """The answers in what follows from a store."""
    need_plain_book(book)
    need_question(question)
    need_store(store)
    return answers_on(question, by_kind(what_follows(leads_of(book.rules()), store)))


def same_answers(one, other):
    """Whether two questions have the same answers in each store."""
    need_question(one)
    need_question(other)
    return _same([], one, other)


def parting_store(one, other):
    """Any store in which two questions have unlike answers, and the same with any fact less; None if there is none."""
    need_question(one)
    need_question(other)
    store = _parting_body([], one, other)
    if store is None:
        store = _parting_body([], other, one)
    return None if store is None else _lessened(one, other, store)


def same_under(book, one, other):
    """Whether two questions have the same answers in each store that is closed by a book."""
    need_plain_book(book)
    need_question(one)
    need_question(other)
    return _same(book.rules(), one, other)


def core(question):
    """The question without those told patterns, from the last to the first one, that it does not need."""
    need_question(question)
    many = len(question.told)
    for place in reversed(range(many)):
        less = _without_pattern(question, place)
        # With fewer patterns there are no fewer answers, so it is enough that there are no more.
        if less is not None and _parting_body([], less, question) is None:
            question = less
    return question


def answers_on(question, shelf):
    """The answers to a question in the facts of a shelf."""
    terms = variables_of(question.told)
    places = [terms.index(column) for column in question.columns]
    return sorted({tuple([row[place] for place in places]) for row in met(question.told, question.pairs, shelf)})


def _same(rules, one, other):
    return _parting_body(rules, one, other) is None and _parting_body(rules, other, one) is None


def _parting_body(rules, one, other):
    """A store from which an answer to one question follows that is none to the other one; None if there is none."""
    leads = leads_of(rules)
    for match in _deciding_matches(rules, one, other):
        binding = dict(zip(variables_of(one.told), match))
        store = sorted({filled(pattern, binding) for pattern in one.told})
        answer = tuple([binding[column] for column in one.columns])
        if answer not in answers_on(other, by_kind(what_follows(leads, store))):
            return store
    return None


def _deciding_matches(rules, one, other):
    """The names for the variables of one question by which it is decided whether the other one has its answers."""
    many = len(variables_of(one.told))
    names = names_of_rules(rules) + names_in(one.told, one.pairs) + names_in(other.told, other.pairs)
    fresh = fresh_names(many, names)
    if other.pairs == [] and all([rule.pairs == [] for rule in rules]):
        # Without pairs there, an answer stays one when names are exchanged for others, also unlike ones for one.
        return [tuple(fresh)]
    terms = variables_of(one.told)
    return [row for row in givings(many, sorted(set(names)), fresh) if keeps_apart(one.pairs, dict(zip(terms, row)))]


def _lessened(one, other, store):
    """A part of a store with unlike answers that has the same ones with any fact less."""
    while True:
        lesser = [[fact for fact in store if fact != left] for left in store]
        unlike = [less for less in lesser if answers_on(one, by_kind(less)) != answers_on(other, by_kind(less))]
        if not unlike:
            return store
        store = unlike[0]


def _without_pattern(question, place):
    """What is left of a question without a told pattern, if it is a question."""
    told = question.told
    try:
        return Question(question.columns, told[:place] + told[place + 1:], question.pairs)
    except InvalidQuestion:
        return None
