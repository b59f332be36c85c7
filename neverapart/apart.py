"""Editions that nothing tells apart, and scripts that do where something does."""

from neverapart.books import alike, parting
from neverapart.branches import engine_of
from neverapart.commands import asks_why, is_script
from neverapart.editions import need_edition
from neverapart.givings import fresh_names
from neverapart.questions import parting_store, same_answers
from neverapart.rules import Book, Rule
from neverapart.scripts import play


def never_apart(one, other):
    """Whether each script without `why` says the same on engines of both editions."""
    need_edition(one)
    need_edition(other)
    if one[0] != other[0] or sorted(one[1]) != sorted(other[1]) or sorted(one[2]) != sorted(other[2]):
        return False
    if not all([_are_same_books(one[1][name], other[1][name]) for name in one[1]]):
        return False
    return all([same_answers(one[2][name], other[2][name]) for name in one[2]])


def parting_script(one, other):
    """Any script without `why` that two editions do not say the same to, each command needed; None without one."""
    need_edition(one)
    need_edition(other)
    script = _parting_by_names(one, other) or _parting_by_labels(one, other)
    script = script or _parting_by_books(one, other) or _parting_by_views(one, other)
    return None if script is None else _least_parting(engine_of(one), engine_of(other), script)


def check_parting_script(one, other, value):
    """Whether any object is what `parting_script` may return."""
    need_edition(one)
    need_edition(other)
    if not is_script(value) or asks_why(value):
        return False
    first, second = engine_of(one), engine_of(other)
    if not _parts(first, second, value):
        return False
    for place in range(len(value)):
        if _parts(first, second, value[:place] + value[place + 1:]):
            return False
    return True


def _are_same_books(one, other):
    return sorted(one.labels()) == sorted(other.labels()) and alike(one, other)


def _parting_by_names(one, other):
    """A command to which something that is there in just one edition makes unlike answers; None if there is none."""
    facts, books, views = [_lonely(these, those) for these, those in zip(one, other)]
    if facts:
        return [("tell", facts[0])]
    if books:
        return [("drop", books[0])]
    return [("seen", views[0])] if views else None


def _lonely(these, those):
    """What stands in just one of two stores, or has a book or a view in just one of two editions, ascending."""
    return sorted([thing for thing in these if thing not in those] + [thing for thing in those if thing not in these])


def _parting_by_labels(one, other):
    """A command that puts a label in which the books of one name have in just one edition; None if there is none."""
    for name in sorted(one[1]):
        for these, those in ((one[1], other[1]), (other[1], one[1])):
            labels = [label for label in these[name].labels() if label not in those[name].labels()]
            if labels:
                return [_command_with_label(labels[0], those)]
    return None


def _command_with_label(label, library):
    """A command that puts a rule with a label in where it stands, or beside all books if it stands nowhere."""
    book = Book([Rule(label, ("x",), [])])
    for name in sorted(library):
        if label in library[name].labels():
            return "exchange", name, book
    return "put", fresh_names(1, sorted(library))[0], book


def _parting_by_books(one, other):
    """A script that asks for the fact at which the books of one name part; None if they are all alike."""
    for name in sorted(one[1]):
        value = parting(one[1][name], other[1][name])
        if value is not None:
            store, fact = value
            dropped = [("drop", another) for another in sorted(one[1]) if another != name]
            return dropped + _towards(one[0], store) + [("ask", fact)]
    return None


def _parting_by_views(one, other):
    """A script that sees a view where its questions have unlike answers; None if all have the same ones."""
    for name in sorted(one[2]):
        store = parting_store(one[2][name], other[2][name])
        if store is not None:
            dropped = [("drop", another) for another in sorted(one[1])]
            return dropped + _towards(one[0], store) + [("seen", name)]
    return None


def _towards(given, store):
    """Commands that make the facts of a store the given ones."""
    taken = [("take", fact) for fact in given if fact not in store]
    return taken + [("tell", fact) for fact in store if fact not in given]


def _parts(first, second, script):
    """Whether a script does not say the same on two engines, which stay as they are."""
    return play(first.copy(), script) != play(second.copy(), script)


def _least_parting(first, second, script):
    """A part of a script that parts two engines, and does not without one of its commands."""
    place = 0
    needed = 0
    # It is done when each command was found needed since the last one was left out.
    while needed < len(script):
        place = place % len(script)
        less = script[:place] + script[place + 1:]
        if _parts(first, second, less):
            script = less
            needed = 0
        else:
            place += 1
            needed += 1
    return script
