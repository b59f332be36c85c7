"""Weights by which each firing of deeds makes a store less, so that no run is endless; or what shows that none are."""

from neverapart.balance import balance
from neverapart.forms import filled, keeps_apart, kind_of, variables_of
from neverapart.givings import fresh_names, givings
from neverapart.joins import names_in
from neverapart.needs import need_deeds


def weights(deeds):
    """Any dictionary of numbers for kinds whose sum each firing makes less; None if there is none."""
    need_deeds(deeds)
    kinds = _kinds(deeds)
    _, numbers = balance(list(_changes(deeds, kinds)), len(kinds))
    return None if numbers is None else dict(zip(kinds, numbers))


def mix(deeds):
    """Any list of changes by deeds, each so many times, that make nothing together; None if there is none."""
    need_deeds(deeds)
    kinds = _kinds(deeds)
    changes = _changes(deeds, kinds)
    times, _ = balance(list(changes), len(kinds))
    if times is None:
        return None
    return [(many, changes[change], dict(zip(kinds, change))) for many, change in zip(times, changes) if many > 0]


def _kinds(deeds):
    """The kinds that deeds take or put, ascending."""
    patterns = [pattern for deed in deeds for pattern in _taken(deed) + deed.puts]
    return sorted({kind_of(pattern) for pattern in patterns})


def _taken(deed):
    told = deed.told
    return [told[place] for place in deed.takes]


def _changes(deeds, kinds):
    """A dictionary from the changes of the numbers of facts of these kinds, at all firings, to the label of a deed."""
    found = {}
    for deed in deeds:
        terms = variables_of(deed.told)
        names = names_in(deed.told + deed.puts + deed.denied, deed.pairs)
        for row in givings(len(terms), names, fresh_names(len(terms), names)):
            for went, came in _turns(deed, dict(zip(terms, row))):
                change = [_many(came, kind) - _many(went, kind) for kind in kinds]
                found.setdefault(tuple(change), deed.label)
    return found


def _many(facts, kind):
    return len([fact for fact in facts if kind_of(fact) == kind])


def _turns(deed, binding):
    """What goes and what comes at a match, a tuple of two lists for each choice of puts that are there already."""
    told = [filled(pattern, binding) for pattern in deed.told]
    denied = [filled(pattern, binding) for pattern in deed.denied]
    if not keeps_apart(deed.pairs, binding) or any([fact in told for fact in denied]):
        return []
    put = [filled(pattern, binding) for pattern in deed.puts]
    went = sorted({fact for fact in [filled(pattern, binding) for pattern in _taken(deed)] if fact not in put})
    # What is told is there, and what is denied is not; of all else it is open.
    news = sorted({fact for fact in put if fact not in told})
    lists = [[]]
    for fact in news:
        there = [] if fact in denied else lists
        lists = there + [came + [fact] for came in lists]
    return [(went, came) for came in lists if went or came]
