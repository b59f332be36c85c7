"""Changes: the tuples that tell them, and what an engine holds behind each."""

from neverapart.errors import InvalidLog, NeverError, TakenName, UnknownName
from neverapart.guards import need_guard
from neverapart.needs import need_fact, need_known_name, need_new_name, need_plain_book, need_question

# How many things stand behind the word of a change, and behind those that only engines with guards have.
CHANGES = {"tell": 1, "take": 1, "put": 2, "drop": 1, "exchange": 2, "view": 2, "unview": 1}
GUARDING = {"guard": 1, "unguard": 1}


class Holding:
    """What an engine holds: given facts, books and views under names, and guards; it never changes."""

    def __init__(self, held, library, watched, posted):
        self.held = held
        self.library = library
        self.watched = watched
        self.posted = posted


def holding_of(store, guards):
    """What an engine of a store holds at first."""
    return Holding(sorted(store), {}, {}, list(guards))


def rules_in(library):
    """The rules of all books, book by book in the order of their names."""
    return [rule for name in sorted(library) for rule in library[name].rules()]


def is_change(value):
    """Whether any object is a tuple of the word of a change with as many things behind it as it takes."""
    word = _word_of(value)
    return word in CHANGES and len(value) == 1 + CHANGES[word]


def need_log(value):
    """Lets lists of changes pass."""
    if not isinstance(value, list) or not all([is_change(part) for part in value]):
        raise InvalidLog(value)


def need_guarded_log(value):
    """Lets lists of changes pass, those of guards among them."""
    if not isinstance(value, list) or not all([is_change(part) or _is_guarding(part) for part in value]):
        raise InvalidLog(value)


def changed(holding, change):
    """What is held behind a change; raises the errors of the method that makes it."""
    word, thing = change[0], change[1]
    held, library = holding.held, holding.library
    watched, posted = holding.watched, holding.posted
    if word == "tell":
        held = _with_fact(held, thing)
    elif word == "take":
        held = _without_fact(held, thing)
    elif word == "put":
        library = _with_book(library, thing, change[2])
    elif word == "drop":
        library = _without_name(library, thing)
    elif word == "exchange":
        library = _with_other_book(library, thing, change[2])
    elif word == "view":
        watched = _with_view(watched, thing, change[2])
    elif word == "unview":
        watched = _without_name(watched, thing)
    elif word == "guard":
        posted = _with_guard(posted, thing)
    else:
        posted = _without_guard(posted, thing)
    return Holding(held, library, watched, posted)


def changed_or_none(holding, change):
    """What is held behind a change; None if it cannot be made."""
    try:
        return changed(holding, change)
    except NeverError:
        return None


def _is_guarding(value):
    word = _word_of(value)
    return word in GUARDING and len(value) == 1 + GUARDING[word]


def _word_of(value):
    """The string with which any object begins, if it is a tuple that begins with one; None otherwise."""
    if not isinstance(value, tuple) or len(value) == 0 or not isinstance(value[0], str):
        return None
    return value[0]


def _with_fact(held, fact):
    need_fact(fact)
    if fact in held:
        raise TakenName(fact)
    return sorted(held + [fact])


def _without_fact(held, fact):
    need_fact(fact)
    if fact not in held:
        raise UnknownName(fact)
    return [other for other in held if other != fact]


def _with_book(library, name, book):
    need_new_name(name, library)
    need_plain_book(book)
    _need_new_labels(book, library)
    return _with(library, name, book)


def _with_other_book(library, name, book):
    need_known_name(name, library)
    need_plain_book(book)
    others = _without_name(library, name)
    _need_new_labels(book, others)
    return _with(others, name, book)


def _need_new_labels(book, library):
    """Lets books pass that have no label of a rule of these others."""
    taken = [rule.label for rule in rules_in(library)]
    for label in book.labels():
        if label in taken:
            raise TakenName(label)


def _with_view(watched, name, question):
    need_new_name(name, watched)
    need_question(question)
    return _with(watched, name, question)


def _without_name(things, name):
    need_known_name(name, things)
    return {other: things[other] for other in things if other != name}


def _with(things, name, thing):
    found = {other: things[other] for other in things}
    found[name] = thing
    return found


def _with_guard(posted, guard):
    need_guard(guard)
    if guard.label in [other.label for other in posted]:
        raise TakenName(guard.label)
    return posted + [guard]


def _without_guard(posted, label):
    need_known_name(label, [other.label for other in posted])
    return [other for other in posted if other.label != label]
