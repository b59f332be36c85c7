"""Answers to questions, and whether two questions have the same ones in each store."""

from neverapart.closing import leads_of, what_follows
from neverapart.deciding import deciding_bindings
from neverapart.errors import InvalidQuestion
from neverapart.forms import filled, variables_of
from neverapart.joins import by_kind, met, names_in
from neverapart.needs import need_plain_book, need_question, need_store
from neverapart.rules import Question
from neverapart.watching import is_broken


def answers(question, store):
    """The names of the columns at each match in a store."""
    need_question(question)
    need_store(store)
    return answers_on(question, by_kind(store))


def answers_under(book, question, store):
    """The answers in what follows from a store."""
    need_plain_book(book)
    need_question(question)
    need_store(store)
    return answers_on(question, by_kind(what_follows(leads_of(book.rules()), store)))


def same_answers(one, other):
    """Whether two questions have the same answers in each store."""
    need_question(one)
    need_question(other)
    return same_where([], [], one, other)


def parting_store(one, other):
    """Any store in which two questions have unlike answers, and the same with any fact less; None if there is none."""
    need_question(one)
    need_question(other)
    store = _parting_body([], [], one, other)
    if store is None:
        store = _parting_body([], [], other, one)
    return None if store is None else _lessened(one, other, store)


def same_under(book, one, other):
    """Whether two questions have the same answers in each store that is closed by a book."""
    need_plain_book(book)
    need_question(one)
    need_question(other)
    return same_where(book.rules(), [], one, other)


def core(question):
    """The question without those told patterns, from the last to the first one, that it does not need."""
    need_question(question)
    many = len(question.told)
    for place in reversed(range(many)):
        less = _without_pattern(question, place)
        # With fewer patterns there are no fewer answers, so it is enough that there are no more.
        if less is not None and _parting_body([], [], less, question) is None:
            question = less
    return question


def answers_on(question, shelf):
    """The answers to a question in the facts of a shelf."""
    terms = variables_of(question.told)
    places = [terms.index(column) for column in question.columns]
    return sorted({tuple([row[place] for place in places]) for row in met(question.told, question.pairs, shelf)})


def same_where(rules, guards, one, other):
    """Whether two questions have the same answers in each store that is closed by rules and breaks no guard."""
    first = _parting_body(rules, guards, one, other)
    return first is None and _parting_body(rules, guards, other, one) is None


def _parting_body(rules, guards, one, other):
    """A store from which an answer to one question follows that is none to the other one; None if there is none."""
    leads = leads_of(rules)
    for binding in deciding_bindings(one, names_in(one.told, one.pairs), rules, guards, [other]):
        store = sorted({filled(pattern, binding) for pattern in one.told})
        answer = tuple([binding[column] for column in one.columns])
        shelf = by_kind(what_follows(leads, store))
        if answer not in answers_on(other, shelf) and not is_broken(guards, shelf):
            return store
    return None


def _lessened(one, other, store):
    """A part of a store with unlike answers that has the same ones with any fact less."""
    while True:
        lesser = [[fact for fact in store if fact != left] for left in store]
        unlike = [less for less in lesser if answers_on(one, by_kind(less)) != answers_on(other, by_kind(less))]
        if not unlike:
            return store
        store = unlike[0]


def _without_pattern(question, place):
    """What is left of a question without a told pattern, if it is a question."""
    told = question.told
    try:
        return Question(question.columns, told[:place] + told[place + 1:], question.pairs)
    except InvalidQuestion:
        return None
