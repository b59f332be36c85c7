"""Makers, which put facts of new things in: what grows, whether it ends, and what is sure of all that is made good."""

from neverapart.carrying import (
    carried_of,
    circle_in,
    holds_along,
    is_circle,
    is_counting,
    least_counts,
    links_of,
    made_of,
)
from neverapart.errors import InvalidBook, InvalidQuestion, InvalidRule, TooMany
from neverapart.forms import filled, is_name, is_pattern, is_patterns, kind_of, variables_of
from neverapart.givings import fresh_names
from neverapart.joins import by_kind, met, names_in
from neverapart.needs import need_count, need_question, need_store
from neverapart.questions import answers_on


class Maker:
    """A maker puts facts of heads in for each fact of a told pattern, with new things for variables of heads alone."""

    def __init__(self, label, heads, told):
        if not is_name(label):
            raise InvalidRule(label)
        if not is_patterns(heads) or heads == []:
            raise InvalidRule(heads)
        if not is_pattern(told) or len(variables_of([told])) < len(told) - 1:
            raise InvalidRule(told)
        self._label = label
        self._heads = list(heads)
        self._told = told

    def __eq__(self, other):
        if not isinstance(other, Maker):
            return False
        return self._label == other._label and self._heads == other._heads and self._told == other._told

    @property
    def label(self):
        """The name of the maker within a list."""
        return self._label

    @property
    def heads(self):
        """The patterns whose facts are put in."""
        return list(self._heads)

    @property
    def told(self):
        """The pattern whose facts give makings."""
        return self._told


def grown(makers, store, most):
    """What comes of a store when all makings are made."""
    _need_case(makers, store, most)
    return sorted(_growth(makers, store, most, []).there)


def things(makers, store, most):
    """The new things that come when all makings are made, in the order in which they come."""
    _need_case(makers, store, most)
    return _growth(makers, store, most, []).new


def ranks(makers):
    """The least counts for the places of makers by which makings end; None if there are none."""
    _need_makers(makers)
    return least_counts(makers)


def check_ranks(makers, value):
    """Whether any object tells counts for the places of makers by which makings end."""
    _need_makers(makers)
    return is_counting(makers, value) and holds_along(value, links_of(makers))


def endless(makers):
    """Any store of one fact and a row of steps along which makings never end; None if they end on all stores."""
    _need_makers(makers)
    circle = circle_in(makers)
    if circle is None:
        return None
    word, many = circle[0][0][0]
    return [(word,) + tuple(fresh_names(many, []))], [step for _, _, _, step in circle]


def check_endless(makers, value):
    """Whether any object is what `endless` may return for makers whose makings do not end."""
    _need_makers(makers)
    return is_circle(makers, value)


def sure_answers(makers, question, store, most):
    """The answers that a question has in each store that has all facts of a store and is made good."""
    _need_makers(makers)
    need_question(question)
    if question.pairs != []:
        raise InvalidQuestion(question)
    need_store(store)
    need_count(most, 0)
    growth = _growth(makers, store, most, names_in(question.told, []))
    found = answers_on(question, by_kind(growth.there))
    return [answer for answer in found if not any([name in growth.new for name in answer])]


def maker_follows(makers, maker, most):
    """Whether each store that is made good by makers is made good by another one."""
    _need_makers(makers)
    if not isinstance(maker, Maker):
        raise InvalidRule(maker)
    need_count(most, 0)
    return _follows(makers, maker, most)


def needless_makers(makers, most):
    """The positions of the makers that follow from all other ones."""
    _need_makers(makers)
    need_count(most, 0)
    many = len(makers)
    return [place for place in range(many) if _follows(makers[:place] + makers[place + 1:], makers[place], most)]


class Growth:
    """A store that grows by makings, each of them made once, with the new things that came."""

    def __init__(self, store, most, taken):
        self.there = {fact: True for fact in store}
        self.new = []
        self._most = most
        self._taken = taken
        self._next_number = 0
        self._made = {}

    def go_on(self, makers):
        """Makes all makings of the facts that are there and that were not made yet; returns whether there were any."""
        shelf = by_kind(self.there)
        found = [(place, row) for place, maker in enumerate(makers) for row in _makings(maker, shelf)]
        waiting = [making for making in found if making not in self._made]
        for place, row in waiting:
            self._made[place, row] = True
            self._make(makers[place], row)
        return waiting != []

    def _make(self, maker, row):
        binding = dict(zip(carried_of(maker), row))
        for term in made_of(maker):
            binding[term] = self._new_thing()
        for head in maker.heads:
            self.there[filled(head, binding)] = True

    def _new_thing(self):
        if len(self.new) == self._most:
            raise TooMany(self._most)
        name = _numbered_name(self._next_number)
        while name in self._taken:
            self._next_number += 1
            name = _numbered_name(self._next_number)
        self._next_number += 1
        self.new.append(name)
        return name


def _need_makers(value):
    """Lets lists of makers with unlike labels pass."""
    if not isinstance(value, list) or not all([isinstance(part, Maker) for part in value]):
        raise InvalidBook(value)
    if len({part.label for part in value}) < len(value):
        raise InvalidBook(value)


def _need_case(makers, store, most):
    _need_makers(makers)
    need_store(store)
    need_count(most, 0)


def _names_in_heads(makers):
    return names_in([head for maker in makers for head in maker.heads], [])


def _growth(makers, store, most, barred):
    """What a store grows to, no new thing having a name that is barred."""
    growth = Growth(store, most, names_in(store, []) + _names_in_heads(makers) + barred)
    while growth.go_on(makers):
        pass
    return growth


def _makings(maker, shelf):
    """The tuples of the names of the carried variables at the facts of a shelf, ascending."""
    carried = carried_of(maker)
    columns = [column for column, term in enumerate(maker.told) if term in carried]
    facts = shelf.get(kind_of(maker.told), [])
    return sorted({tuple([fact[column] for column in columns]) for fact in facts})


def _numbered_name(number):
    """The name with a number, of all names in the order of their lengths and letters."""
    letters = "abcdefghijklmnopqrstuvwxyz"
    name = ""
    while number >= 0:
        name = letters[number % 26] + name
        number = number // 26 - 1
    return name


def _follows(makers, maker, most):
    barred = _names_in_heads(makers + [maker])
    terms = variables_of([maker.told])
    binding = dict(zip(terms, fresh_names(len(terms), barred)))
    growth = _growth(makers, [filled(maker.told, binding)], most, barred)
    heads = [filled(head, binding) for head in maker.heads]
    return met(heads, [], by_kind(growth.there)) != []
