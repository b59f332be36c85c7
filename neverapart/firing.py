"""Deeds that fire on a store by themselves: one by one, in runs, and all ends to which runs come."""

from neverapart.errors import NotFiring, TooMany
from neverapart.forms import filled, variables_of
from neverapart.joins import by_kind, met
from neverapart.needs import need_count, need_deeds, need_store


def can_fire(deeds, store):
    """The firings of the greatest rank of those that fire."""
    need_deeds(deeds)
    need_store(store)
    return [(label, match) for label, match, _ in _firings(deeds, store)]


def fire(deeds, store, label, match):
    """The store after a firing."""
    need_deeds(deeds)
    need_store(store)
    for one, other, after in _firings(deeds, store):
        if one == label and other == match:
            return list(after)
    raise NotFiring((label, match))


def run(deeds, store, many):
    """The first firings, one behind the other, as long as there are any, and the store at last."""
    need_deeds(deeds)
    need_store(store)
    need_count(many, 0)
    here = sorted(store)
    done = []
    while len(done) < many:
        firings = _firings(deeds, here)
        if not firings:
            break
        label, match, after = firings[0]
        done.append((label, match))
        here = list(after)
    return done, here


def ends(deeds, store, most):
    """All stores to which runs come and in which nothing can fire any more."""
    graph = _graph(deeds, store, most)
    return sorted([list(place) for place in graph if not graph[place]])


def parted(deeds, store, most):
    """Any two runs that come to unlike ends; None if there is but one end, or none."""
    graph = _graph(deeds, store, most)
    found = [place for place in graph if not graph[place]]
    if len(found) < 2:
        return None
    runs = _runs(graph)
    return runs[found[0]], runs[found[1]]


def ring(deeds, store, most):
    """Any run to a store, and one from there back to it; None if each run comes to an end."""
    return _ring_in(_graph(deeds, store, most))


def store_after(deed, binding, store):
    """The store in which a deed was done at a match, ascending."""
    told = deed.told
    taken = [filled(told[place], binding) for place in deed.takes]
    put = [filled(pattern, binding) for pattern in deed.puts]
    return sorted(set([fact for fact in store if fact not in taken] + put))


def is_free(deed, binding, store):
    """Whether no denied pattern of a deed is with these names a fact of a store."""
    return not any([filled(pattern, binding) in store for pattern in deed.denied])


def _firings(deeds, store):
    """The tuples (label, match, store behind it) of all firings of the greatest rank of those that fire."""
    facts = sorted(store)
    shelf = by_kind(facts)
    for rank in reversed(sorted({deed.rank for deed in deeds})):
        found = [row for deed in deeds if deed.rank == rank for row in _firings_of(deed, facts, shelf)]
        if found:
            return sorted(found)
    return []


def _firings_of(deed, facts, shelf):
    terms = variables_of(deed.told)
    rows = []
    for match in met(deed.told, deed.pairs, shelf):
        binding = dict(zip(terms, match))
        after = store_after(deed, binding, facts)
        if after != facts and is_free(deed, binding, facts):
            rows.append((deed.label, match, tuple(after)))
    return rows


def _graph(deeds, store, most):
    """A dictionary from each store to which runs come, the first one ahead, to its firings."""
    need_deeds(deeds)
    need_store(store)
    need_count(most, 1)
    first = tuple(sorted(store))
    graph = {}
    seen = {first: True}
    waiting = [first]
    while waiting:
        here = waiting.pop()
        firings = _firings(deeds, list(here))
        graph[here] = firings
        for _, _, after in firings:
            if after not in seen:
                seen[after] = True
                waiting.append(after)
        if len(seen) > most:
            raise TooMany(most)
    return graph


def _runs(graph):
    """A run to each store of a graph."""
    first = list(graph)[0]
    runs = {first: []}
    waiting = [first]
    while waiting:
        here = waiting.pop()
        for label, match, after in graph[here]:
            if after not in runs:
                runs[after] = runs[here] + [(label, match)]
                waiting.append(after)
    return runs


def _ring_in(graph):
    """A row of firings along which no store comes twice, and one back to where it ends; None if there is none."""
    path = [list(graph)[0]]
    left = [list(graph[path[0]])]
    firings = []
    done = {}
    while path:
        if not left[-1]:
            done[path.pop()] = True
            left.pop()
            firings = firings[:-1]
            continue
        label, match, after = left[-1].pop()
        if after in path:
            place = path.index(after)
            return firings[:place], firings[place:] + [(label, match)]
        if after not in done:
            path.append(after)
            left.append(list(graph[after]))
            firings.append((label, match))
    return None
