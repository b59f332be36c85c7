"""Editions: tuples of given facts, books and views, which tell what an engine holds."""

from neverapart.changes import Holding, rules_in
from neverapart.errors import InvalidEdition
from neverapart.forms import is_name, is_store
from neverapart.rules import Book, Question


def need_edition(value):
    """Lets editions pass."""
    if not _is_edition(value):
        raise InvalidEdition(value)


def held_in(edition):
    """What an engine of an edition holds."""
    given, books, views = edition
    return Holding(given, books, views, [])


def edition_of(holding):
    """The edition of what an engine holds."""
    library, watched = holding.library, holding.watched
    return list(holding.held), {name: library[name] for name in library}, {name: watched[name] for name in watched}


def _is_edition(value):
    if not isinstance(value, tuple) or len(value) != 3:
        return False
    given, books, views = value
    if not is_store(given) or given != sorted(given):
        return False
    if not isinstance(books, dict) or not all([is_name(key) and _is_plain_book(books[key]) for key in books]):
        return False
    labels = [rule.label for rule in rules_in(books)]
    if len(set(labels)) < len(labels):
        return False
    return isinstance(views, dict) and all([is_name(key) and isinstance(views[key], Question) for key in views])


def _is_plain_book(value):
    return isinstance(value, Book) and value.plain
