"""Guards on all stores: which follow from others, what is alike under them, and which deeds leak through them."""

from neverapart.books import missing_body
from neverapart.closing import leads_of, what_follows
from neverapart.deciding import deciding_bindings
from neverapart.firing import is_free, store_after
from neverapart.forms import filled, is_store, keeps_apart, variables_of
from neverapart.givings import fresh_names, givings
from neverapart.guards import need_guard, need_guards
from neverapart.joins import by_kind, names_in
from neverapart.needs import need_deeds, need_plain_book, need_plain_rule, need_question
from neverapart.questions import same_where
from neverapart.rules import Book
from neverapart.watching import is_broken, is_sound, names_of_conditions


def guard_follows(book, guards, guard):
    """Whether each store that is sound by guards is sound by another one."""
    need_plain_book(book)
    need_guards(guards)
    need_guard(guard)
    return _sound_body(book.rules(), guards, guard) is None


def guards_alike(book, one, other):
    """Whether two lists of guards let the same stores be sound."""
    return parting_guards(book, one, other) is None


def parting_guards(book, one, other):
    """Any store that is sound by just one of two lists of guards, and by both with any fact less; None without one."""
    need_plain_book(book)
    need_guards(one)
    need_guards(other)
    rules = book.rules()
    store = _parting_body(rules, one, other)
    return _parting_body(rules, other, one) if store is None else store


def lean_guards(book, guards):
    """The guards without those, from the last to the first one, that follow from what is still there."""
    need_plain_book(book)
    need_guards(guards)
    rules = book.rules()
    kept = list(guards)
    many = len(kept)
    for place in reversed(range(many)):
        others = kept[:place] + kept[place + 1:]
        if _sound_body(rules, others, kept[place]) is None:
            kept = others
    return kept


def follows_under(book, guards, rule):
    """Whether each store that is closed by a book, and breaks no guard, is closed by a rule."""
    need_plain_book(book)
    need_guards(guards)
    need_plain_rule(rule)
    return missing_body(book.rules(), guards, rule) is None


def alike_under(guards, one, other):
    """Whether two books have the same sound stores, and lead to the same on each of them."""
    return parting_under(guards, one, other) is None


def parting_under(guards, one, other):
    """Any store at which two books part under guards, and do not with any fact less; None if they are alike."""
    need_guards(guards)
    need_plain_book(one)
    need_plain_book(other)
    for rules, others in ((one.rules(), other.rules()), (other.rules(), one.rules())):
        for rule in rules:
            body = missing_body(others, guards, rule)
            if body is not None:
                return _lessened(leads_of(rules), leads_of(others), body[1])
    return None


def lean_under(guards, book):
    """The book without those rules, from the last to the first one, that follow under guards from what is left."""
    need_guards(guards)
    need_plain_book(book)
    rules = book.rules()
    many = len(rules)
    for place in reversed(range(many)):
        others = rules[:place] + rules[place + 1:]
        if missing_body(others, guards, rules[place]) is None:
            rules = others
    return Book(rules)


def same_under_guards(book, guards, one, other):
    """Whether two questions have the same answers in each store that is closed by a book and breaks no guard."""
    need_plain_book(book)
    need_guards(guards)
    need_question(one)
    need_question(other)
    return same_where(book.rules(), guards, one, other)


def leak(deeds, guards):
    """Any sound store, and a firing that leads from it to one that is not sound, each fact needed for this; or None."""
    need_deeds(deeds)
    need_guards(guards)
    for deed in deeds:
        for guard in guards:
            found = _leak_through(deed, guard, guards)
            if found is not None:
                return found
    return None


def check_leak(deeds, guards, value):
    """Whether any object is what `leak` may return."""
    need_deeds(deeds)
    need_guards(guards)
    if not isinstance(value, tuple) or len(value) != 3 or not is_store(value[0]):
        return False
    store, label, match = value
    for deed in deeds:
        if deed.label == label:
            terms = variables_of(deed.told)
            if not isinstance(match, tuple) or len(match) != len(terms):
                return False
            binding = dict(zip(terms, match))
            return _leaks(deed, binding, guards, store) and _less_leaking(deed, binding, guards, store) is None
    return False


def _sound_body(rules, guards, guard):
    """The told patterns of a guard with names such that they are sound by others; None if the guard follows."""
    leads = leads_of(rules)
    for binding in deciding_bindings(guard, names_of_conditions([guard]), rules, guards, []):
        store = sorted({filled(pattern, binding) for pattern in guard.told})
        if is_sound(leads, guards, store):
            return store
    return None


def _parting_body(rules, guards, others):
    """A least store that is not sound by guards and is by others; None if there is none."""
    leads = leads_of(rules)
    for guard in guards:
        store = _sound_body(rules, others, guard)
        if store is not None:
            kept = store
            for part in store:
                less = [fact for fact in kept if fact != part]
                # With fewer facts the others still let it be sound.
                if not is_sound(leads, guards, less):
                    kept = less
            return kept
    return None


def _lessened(leads, others, store):
    """A part of a store at which rules part under guards, and do not with any fact less."""
    # The store is sound by the others, and so is each part of it. If it is not by the rules, they lead to more there.
    while True:
        lesser = [[fact for fact in store if fact != left] for left in store]
        parted = [less for less in lesser if what_follows(leads, less) != what_follows(others, less)]
        if not parted:
            return store
        store = parted[0]


def _leak_through(deed, guard, guards):
    """A leak of a deed at which this one of the guards has a match behind it; None if there is none."""
    terms, others = variables_of(deed.told), variables_of(guard.told)
    names = names_in(deed.told + deed.puts + deed.denied, deed.pairs) + names_of_conditions(guards)
    many = len(terms) + len(others)
    for row in givings(many, sorted(set(names)), fresh_names(many, names)):
        binding, back = dict(zip(terms, row)), dict(zip(others, row[len(terms):]))
        put = [filled(pattern, binding) for pattern in deed.puts]
        # What the guard meets behind the deed was there or is put in, so no other facts are needed.
        met = [filled(pattern, back) for pattern in guard.told]
        there = [filled(pattern, binding) for pattern in deed.told] + [fact for fact in met if fact not in put]
        store = sorted(set(there))
        if _leaks(deed, binding, guards, store):
            return _least_leak(deed, binding, guards, store), deed.label, row[:len(terms)]
    return None


def _leaks(deed, binding, guards, store):
    """Whether names are a match of a deed in a sound store, behind which it is not sound."""
    told = [filled(pattern, binding) for pattern in deed.told]
    if not all([fact in store for fact in told]) or not keeps_apart(deed.pairs, binding):
        return False
    if not is_free(deed, binding, store) or is_broken(guards, by_kind(store)):
        return False
    return is_broken(guards, by_kind(store_after(deed, binding, store)))


def _less_leaking(deed, binding, guards, store):
    """A store with one fact less from which the same firing leaks; None if there is none."""
    for left in store:
        less = [fact for fact in store if fact != left]
        if _leaks(deed, binding, guards, less):
            return less
    return None


def _least_leak(deed, binding, guards, store):
    """A part of a store from which the same firing leaks, and does not with any fact less."""
    while True:
        less = _less_leaking(deed, binding, guards, store)
        if less is None:
            return store
        store = less
