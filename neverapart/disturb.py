"""Whether two deeds can be done in either order wherever both have matches."""

from neverapart.firing import is_free, store_after
from neverapart.forms import filled, keeps_apart, variables_of
from neverapart.givings import fresh_names, givings
from neverapart.joins import names_in
from neverapart.needs import need_deed


def disturb(one, other):
    """Any store, and a match of each of two deeds, at which they do not go over one another; None if they always do."""
    need_deed(one)
    need_deed(other)
    terms, others = variables_of(one.told), variables_of(other.told)
    many = len(terms) + len(others)
    names = sorted(set(_names_of(one) + _names_of(other)))
    same = one == other
    for row in givings(many, names, fresh_names(many, names)):
        match, another = row[:len(terms)], row[len(terms):]
        if same and match == another:
            continue
        binding, back = dict(zip(terms, match)), dict(zip(others, another))
        # Facts that neither of the two matches tells change nothing of what the two deeds do to one another.
        store = sorted(set(_facts_of(one, binding) + _facts_of(other, back)))
        if _is_match(one, binding, store) and _is_match(other, back, store):
            if not _go_over(one, binding, other, back, store):
                return store, match, another
    return None


def _names_of(deed):
    return names_in(deed.told + deed.puts + deed.denied, deed.pairs)


def _facts_of(deed, binding):
    return [filled(pattern, binding) for pattern in deed.told]


def _is_match(deed, binding, store):
    """Whether names are a match of a deed in a store."""
    there = all([fact in store for fact in _facts_of(deed, binding)])
    return there and keeps_apart(deed.pairs, binding) and is_free(deed, binding, store)


def _go_over(one, binding, other, back, store):
    """Whether, whichever deed is done first, the other match is still one, and both orders lead to the same store."""
    first, second = store_after(one, binding, store), store_after(other, back, store)
    if not _is_match(other, back, first) or not _is_match(one, binding, second):
        return False
    return store_after(other, back, first) == store_after(one, binding, second)
