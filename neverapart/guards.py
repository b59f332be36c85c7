"""Guards, which let some stores be sound and others not: what breaks them, what repairs that, what is sure anyhow."""

from neverapart.closing import leads_of, what_follows
from neverapart.errors import InvalidGuard
from neverapart.forms import filled, has_more, is_name, is_pairs, is_patterns, sides_of, variables_of
from neverapart.joins import by_kind, met
from neverapart.needs import need_plain_book, need_question, need_store
from neverapart.questions import answers_on
from neverapart.tables import all_hold, always, fact_items, least_facts, lost_table, tables_of
from neverapart.watching import breaks_on, is_sound


class Guard:
    """A guard lets a store be sound only if it has no match in what follows from it."""

    def __init__(self, label, told, pairs=None):
        if not is_name(label):
            raise InvalidGuard(label)
        if not is_patterns(told):
            raise InvalidGuard(told)
        if pairs is not None and not is_pairs(pairs):
            raise InvalidGuard(pairs)
        if has_more(sides_of(pairs or []), told):
            raise InvalidGuard(pairs)
        self._label = label
        self._told = list(told)
        self._pairs = list(pairs or [])

    def __eq__(self, other):
        if not isinstance(other, Guard):
            return False
        return self._label == other._label and self._told == other._told and self._pairs == other._pairs

    @property
    def label(self):
        """The name of the guard within a list."""
        return self._label

    @property
    def told(self):
        """The patterns that must not all be facts."""
        return list(self._told)

    @property
    def pairs(self):
        """The pairs of terms that have to be unlike."""
        return list(self._pairs)


def sound(book, guards, store):
    """Whether no guard has a match in what follows from a store."""
    _need_case(book, guards, store)
    return is_sound(leads_of(book.rules()), guards, store)


def breaks(book, guards, store):
    """All matches of guards in what follows from a store, each behind the label of its guard."""
    _need_case(book, guards, store)
    return breaks_on(guards, by_kind(what_follows(leads_of(book.rules()), store)))


def blames(book, guards, store):
    """All lists of facts that are not sound, and are with any of them less."""
    _need_case(book, guards, store)
    items = fact_items(store)
    return least_facts(items, _broken_table(book.rules(), guards, store, items))


def repairs(book, guards, store):
    """All lists of facts without which a store is sound, and is not if any of them stays."""
    _need_case(book, guards, store)
    return least_repairs(book.rules(), guards, store, store)


def fewest(book, guards, store):
    """The least number of facts of a repair; None if there are none."""
    found = repairs(book, guards, store)
    return min([len(facts) for facts in found]) if found else None


def surely(book, guards, store, question):
    """The answers that a question has behind each repair; None if there are no repairs."""
    lists = _answers_behind_repairs(book, guards, store, question)
    if not lists:
        return None
    return [answer for answer in lists[0] if all([answer in found for found in lists])]


def perhaps(book, guards, store, question):
    """The answers that a question has behind some repair; None if there are no repairs."""
    lists = _answers_behind_repairs(book, guards, store, question)
    return sorted({answer for found in lists for answer in found}) if lists else None


def tellable(book, guards, store, could):
    """The facts with each of which alone a store is still sound."""
    _need_case(book, guards, store)
    need_store(could)
    return facts_tellable(book.rules(), guards, store, could)


def fullest(book, guards, store, could):
    """All lists of further facts with which a store is sound, and is not with any other one of them, too."""
    _need_case(book, guards, store)
    need_store(could)
    more = sorted([fact for fact in could if fact not in store])
    lost = least_repairs(book.rules(), guards, store + more, more)
    return sorted([[fact for fact in more if fact not in facts] for facts in lost])


def need_guard(value):
    """Lets guards pass."""
    if not isinstance(value, Guard):
        raise InvalidGuard(value)


def need_guards(value):
    """Lets lists of guards with unlike labels pass."""
    if not isinstance(value, list) or not all([isinstance(part, Guard) for part in value]):
        raise InvalidGuard(value)
    if len({part.label for part in value}) < len(value):
        raise InvalidGuard(value)


def least_repairs(rules, guards, store, loose):
    """All lists of loose facts of a store without which it is sound, and is not if any of them stays."""
    items = fact_items(loose)
    return least_facts(items, lost_table(_broken_table(rules, guards, store, items), len(items)))


def facts_tellable(rules, guards, store, could):
    """The facts of others with each of which alone a store is still sound."""
    leads = leads_of(rules)
    return [fact for fact in sorted(could) if fact not in store and is_sound(leads, guards, store + [fact])]


def _need_case(book, guards, store):
    need_plain_book(book)
    need_guards(guards)
    need_store(store)


def _broken_table(rules, guards, store, items):
    """The table of whether a store is not sound; what is no item is always there."""
    shelf = by_kind(what_follows(leads_of(rules), store))
    lists = [facts for guard in guards for facts in _facts_at_matches(guard, shelf)]
    tables = tables_of(rules, store, items, [fact for facts in lists for fact in facts])
    table = 0
    for facts in lists:
        table = table | all_hold(always(len(items)), [tables[fact] for fact in facts])
    return table


def _facts_at_matches(guard, shelf):
    """What the told patterns of a guard are at each match."""
    terms = variables_of(guard.told)
    bindings = [dict(zip(terms, match)) for match in met(guard.told, guard.pairs, shelf)]
    return [[filled(pattern, binding) for pattern in guard.told] for binding in bindings]


def _answers_behind_repairs(book, guards, store, question):
    """The answers to a question in what follows from a store behind each repair."""
    _need_case(book, guards, store)
    need_question(question)
    rules = book.rules()
    leads = leads_of(rules)
    lists = []
    for facts in least_repairs(rules, guards, store, store):
        left = [fact for fact in store if fact not in facts]
        lists.append(answers_on(question, by_kind(what_follows(leads, left))))
    return lists
