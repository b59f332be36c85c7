"""What arguments have to be: each function raises the error of its form for any other object."""

from neverapart.deeds import Deed
from neverapart.errors import (
    InvalidBook,
    InvalidDeed,
    InvalidFact,
    InvalidGoal,
    InvalidName,
    InvalidNumber,
    InvalidQuestion,
    InvalidRule,
    InvalidStore,
    NotPlain,
    TakenName,
    UnknownName,
)
from neverapart.forms import is_count, is_fact, is_name, is_pattern, is_store
from neverapart.rules import Book, Question, Rule


def need_fact(value):
    """Lets facts pass."""
    if not is_fact(value):
        raise InvalidFact(value)


def need_store(value):
    """Lets stores pass."""
    if not is_store(value):
        raise InvalidStore(value)


def need_rule(value):
    """Lets rules pass."""
    if not isinstance(value, Rule):
        raise InvalidRule(value)


def need_plain_rule(value):
    """Lets rules without denied patterns pass."""
    need_rule(value)
    if value.denied != []:
        raise NotPlain(value)


def need_book(value):
    """Lets books pass."""
    if not isinstance(value, Book):
        raise InvalidBook(value)


def need_plain_book(value):
    """Lets books without denied patterns pass."""
    need_book(value)
    if not value.plain:
        raise NotPlain(value)


def need_question(value):
    """Lets questions pass."""
    if not isinstance(value, Question):
        raise InvalidQuestion(value)


def need_deed(value):
    """Lets deeds pass."""
    if not isinstance(value, Deed):
        raise InvalidDeed(value)


def need_deeds(value):
    """Lets lists of deeds with unlike labels pass."""
    if not isinstance(value, list) or not all([isinstance(part, Deed) for part in value]):
        raise InvalidDeed(value)
    if len({part.label for part in value}) < len(value):
        raise InvalidDeed(value)


def need_count(value, least):
    """Lets counts pass that are not below a number."""
    if not is_count(value) or value < least:
        raise InvalidNumber(value)


def need_goal(value):
    """Lets goals pass."""
    if not is_pattern(value):
        raise InvalidGoal(value)


def need_new_name(value, taken):
    """Lets names pass that are not taken."""
    if not is_name(value):
        raise InvalidName(value)
    if value in taken:
        raise TakenName(value)


def need_known_name(value, known):
    """Lets known names pass."""
    if not is_name(value) or value not in known:
        raise UnknownName(value)


def need_plain_case(book, store, fact):
    """Lets plain books, stores and facts pass, looked at in this order."""
    need_plain_book(book)
    need_store(store)
    need_fact(fact)
