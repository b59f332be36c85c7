"""Goals: what is asked for, which calls this makes, and which facts it looks at."""

from neverapart.calling import calling_stores, calls_on
from neverapart.closing import leads_of, what_follows
from neverapart.forms import bound, form_of, kind_of
from neverapart.lots import facts_in_supports
from neverapart.needs import need_goal, need_plain_book, need_store


def instances(goal, store):
    """The facts of a store that are instances of a goal."""
    need_goal(goal)
    need_store(store)
    return instances_in(goal, store)


def asked(book, goal, store):
    """The facts that follow and are instances of a goal."""
    _need_case(book, goal, store)
    return _asked(book, goal, store)


def form(goal):
    """A goal with `A`, `B`, `C` for its variables."""
    need_goal(goal)
    return form_of(goal)


def calls(book, goal, store):
    """The calls of the table of a goal."""
    _need_case(book, goal, store)
    return calls_on(book.rules(), goal, what_follows(leads_of(book.rules()), store))


def looks(book, goal, store):
    """The facts of a store that are instances of a call of a goal."""
    forms = calls(book, goal, store)
    return sorted([fact for fact in store if any([bound(one, fact, {}) is not None for one in forms])])


def matters(book, goal, store):
    """The facts of a store without each of which alone other facts are asked for."""
    _need_case(book, goal, store)
    found = _asked(book, goal, store)
    facts = sorted(store)
    return [fact for fact in facts if _asked(book, goal, [part for part in facts if part != fact]) != found]


def used(book, goal, store):
    """The facts of a store that stand in a lot on which a fact that is asked for rests."""
    _need_case(book, goal, store)
    return facts_in_supports(book, store, _asked(book, goal, store))


def can_call(book, goal):
    """All calls that a goal has on some store, names that stand nowhere in the book and the goal being alike."""
    need_plain_book(book)
    need_goal(goal)
    return sorted(calling_stores(book.rules(), goal))


def kinds_called(book, goal):
    """The kinds of all calls that a goal has on some store."""
    return sorted({kind_of(call) for call in can_call(book, goal)})


def calling_store(book, goal, call):
    """Any store on which a goal has a call; None if there is none."""
    need_plain_book(book)
    need_goal(goal)
    need_goal(call)
    return calling_stores(book.rules(), goal).get(call)


def _need_case(book, goal, store):
    need_plain_book(book)
    need_goal(goal)
    need_store(store)


def instances_in(goal, facts):
    return sorted([fact for fact in facts if bound(goal, fact, {}) is not None])


def _asked(book, goal, store):
    return instances_in(goal, what_follows(leads_of(book.rules()), store))
