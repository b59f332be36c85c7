"""Texts of facts, rules, books and stores, reading them back, and other names."""

from neverapart.errors import InvalidBook, InvalidFact, InvalidNames, InvalidQuestion, InvalidRule, InvalidText
from neverapart.forms import filled, is_fact, is_name, is_store
from neverapart.needs import need_book, need_fact, need_rule, need_store
from neverapart.rules import Book, Question, Rule


def fact_text(fact):
    """The text of a fact."""
    need_fact(fact)
    return pattern_text(fact)


def rule_text(rule):
    """The text of a rule."""
    need_rule(rule)
    conditions = conditions_text(rule.told, rule.pairs, rule.denied)
    return rule.label + ": " + pattern_text(rule.head) + conditions


def book_text(book):
    """The text of a book, a line for each rule."""
    need_book(book)
    return "\n".join([rule_text(rule) for rule in book.rules()])


def store_text(store):
    """The text of a store, a line for each fact."""
    need_store(store)
    return "\n".join([pattern_text(fact) for fact in sorted(store)])


def read_fact(text):
    """The fact that has a text."""
    fact = _fact_in(text) if isinstance(text, str) else None
    if fact is None:
        raise InvalidText(text)
    return fact


def read_rule(text):
    """The rule that has a text."""
    rule = _rule_in(text) if isinstance(text, str) else None
    if rule is None:
        raise InvalidText(text)
    return rule


def read_book(text):
    """The book that has a text."""
    if not isinstance(text, str):
        raise InvalidText(text)
    try:
        return Book([_rule_in(line) for line in lines_of(text)])
    except InvalidBook:
        raise InvalidText(text) from None


def read_store(text):
    """The store that has a text, which tells its facts in ascending order."""
    facts = [_fact_in(line) for line in lines_of(text)] if isinstance(text, str) else None
    if not is_store(facts) or facts != sorted(facts):
        raise InvalidText(text)
    return facts


def renamed(thing, names):
    """A fact, a store, a rule, a book or a question with names exchanged wherever they stand as terms."""
    if not _can_be_renamed(thing):
        raise InvalidFact(thing)
    if not _is_exchange(names):
        raise InvalidNames(names)
    if isinstance(thing, tuple):
        return filled(thing, names)
    if isinstance(thing, list):
        return sorted(_all_filled(thing, names))
    if isinstance(thing, Rule):
        return _renamed_rule(thing, names)
    if isinstance(thing, Book):
        return Book([_renamed_rule(rule, names) for rule in thing.rules()])
    return Question(thing.columns, _all_filled(thing.told, names), _exchanged(thing.pairs, names))


def pattern_text(pattern):
    """The text of a fact or a pattern."""
    if len(pattern) == 1:
        return pattern[0]
    return pattern[0] + "(" + ", ".join(pattern[1:]) + ")"


def pattern_in(text):
    """The only tuple that could have a text as a pattern; who asks makes sure that it is a pattern with this text."""
    word, bracket, terms = text.partition("(")
    if bracket == "":
        return (word,)
    return (word, *terms[:-1].split(", "))


def question_text(question):
    """The text of a question: its columns and conditions."""
    return "(" + ", ".join(question.columns) + ")" + conditions_text(question.told, question.pairs, [])


def question_in(text):
    """The only question that could have a text, or None; who asks makes sure that it has it."""
    columns, word, tail = text.partition(" if ")
    told, pairs, _ = conditions_in(tail) if word else ([], [], [])
    try:
        return Question(columns[1:-1].split(", ") if columns != "()" else [], told, pairs)
    except InvalidQuestion:
        return None


def conditions_text(told, pairs, denied):
    """What stands in a text behind the head, or the columns."""
    texts = [pattern_text(pattern) for pattern in told]
    texts = texts + [one + " unlike " + other for one, other in pairs]
    texts = texts + ["not " + pattern_text(pattern) for pattern in denied]
    return " if " + ", ".join(texts) if texts else ""


def conditions_in(text):
    """The only told, pairs and denied that could have a text; who asks makes sure that they have it."""
    conditions = _unbracketed(text)
    # A word may be `not`, `if` or `unlike`, but none of these stands between two blanks within a pattern.
    pairs = [tuple(piece.split(" unlike ")) for piece in conditions if " unlike " in piece]
    others = [piece for piece in conditions if " unlike " not in piece]
    denied = [pattern_in(piece[len("not "):]) for piece in others if piece.startswith("not ")]
    told = [pattern_in(piece) for piece in others if not piece.startswith("not ")]
    return told, pairs, denied


def lines_of(text):
    """The lines of a text; the empty one has none."""
    return text.split("\n") if text else []


def _unbracketed(text):
    """The pieces of a text between those `, ` that stand in no brackets."""
    pieces = []
    for piece in text.split(", "):
        if pieces and "(" in pieces[-1] and ")" not in pieces[-1]:
            pieces[-1] = pieces[-1] + ", " + piece
        else:
            pieces.append(piece)
    return pieces


def _fact_in(text):
    fact = pattern_in(text)
    return fact if is_fact(fact) and pattern_text(fact) == text else None


def _rule_in(text):
    """The rule that has a string for its text, or None."""
    label, _, rest = text.partition(": ")
    head, word, tail = rest.partition(" if ")
    told, pairs, denied = conditions_in(tail) if word else ([], [], [])
    try:
        rule = Rule(label, pattern_in(head), told, pairs, denied)
    except InvalidRule:
        return None
    return rule if rule_text(rule) == text else None


def _can_be_renamed(thing):
    return is_fact(thing) or is_store(thing) or isinstance(thing, (Rule, Book, Question))


def _is_exchange(names):
    """Whether any object is a dictionary that exchanges names with one another."""
    if not isinstance(names, dict) or not all([is_name(key) and is_name(names[key]) for key in names]):
        return False
    return sorted(names) == sorted(names.values())


def _renamed_rule(rule, names):
    head = filled(rule.head, names)
    told = _all_filled(rule.told, names)
    return Rule(rule.label, head, told, _exchanged(rule.pairs, names), _all_filled(rule.denied, names))


def _all_filled(patterns, names):
    return [filled(pattern, names) for pattern in patterns]


def _exchanged(pairs, names):
    return [(names.get(one, one), names.get(other, other)) for one, other in pairs]
