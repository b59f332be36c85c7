"""Rules, books of rules, and questions."""

from neverapart.errors import InvalidBook, InvalidQuestion, InvalidRule, UnknownName
from neverapart.forms import has_more, is_name, is_pairs, is_pattern, is_patterns, is_variable, sides_of, terms_of


class Rule:
    """A rule leads from told patterns to its head, unless pairs are alike or denied patterns are there."""

    def __init__(self, label, head, told, pairs=None, denied=None):
        if not is_name(label):
            raise InvalidRule(label)
        if not is_pattern(head):
            raise InvalidRule(head)
        if not is_patterns(told):
            raise InvalidRule(told)
        if pairs is not None and not is_pairs(pairs):
            raise InvalidRule(pairs)
        if denied is not None and not is_patterns(denied):
            raise InvalidRule(denied)
        if has_more(head[1:], told):
            raise InvalidRule(head)
        if has_more(sides_of(pairs or []), told):
            raise InvalidRule(pairs)
        if has_more(terms_of(denied or []), told):
            raise InvalidRule(denied)
        self._label = label
        self._head = head
        self._told = list(told)
        self._pairs = list(pairs or [])
        self._denied = list(denied or [])

    def __eq__(self, other):
        if not isinstance(other, Rule):
            return False
        if self._label != other._label or self._head != other._head or self._told != other._told:
            return False
        return self._pairs == other._pairs and self._denied == other._denied

    @property
    def label(self):
        """The name of the rule within a book."""
        return self._label

    @property
    def head(self):
        """The pattern that the rule leads to."""
        return self._head

    @property
    def told(self):
        """The patterns that have to be facts."""
        return list(self._told)

    @property
    def pairs(self):
        """The pairs of terms that have to be unlike."""
        return list(self._pairs)

    @property
    def denied(self):
        """The patterns that must not be facts."""
        return list(self._denied)


class Book:
    """A book is a list of rules with unlike labels."""

    def __init__(self, rules):
        if not isinstance(rules, list) or not all([isinstance(part, Rule) for part in rules]):
            raise InvalidBook(rules)
        if _has_double([part.label for part in rules]):
            raise InvalidBook(rules)
        self._rules = list(rules)

    def __eq__(self, other):
        return isinstance(other, Book) and self._rules == other._rules

    def __len__(self):
        return len(self._rules)

    def __add__(self, other):
        if not isinstance(other, Book) or _has_double(self.labels() + other.labels()):
            raise InvalidBook(other)
        return Book(self.rules() + other.rules())

    def rules(self):
        """The list of the rules."""
        return list(self._rules)

    def labels(self):
        """The list of the labels of the rules."""
        return [part.label for part in self._rules]

    def rule(self, label):
        """The rule with a label."""
        return self._rules[_place(label, self.labels())]

    def without(self, label):
        """The book of all rules but the one with a label."""
        place = _place(label, self.labels())
        return Book(self._rules[:place] + self._rules[place + 1:])

    @property
    def plain(self):
        """Whether no rule has a denied pattern."""
        return all([part.denied == [] for part in self._rules])


class Question:
    """A question asks for the names of its columns at each match of its told patterns."""

    def __init__(self, columns, told, pairs=None):
        if not isinstance(columns, list) or not all([is_variable(part) for part in columns]):
            raise InvalidQuestion(columns)
        if not is_patterns(told):
            raise InvalidQuestion(told)
        if pairs is not None and not is_pairs(pairs):
            raise InvalidQuestion(pairs)
        if has_more(columns, told):
            raise InvalidQuestion(columns)
        if has_more(sides_of(pairs or []), told):
            raise InvalidQuestion(pairs)
        self._columns = list(columns)
        self._told = list(told)
        self._pairs = list(pairs or [])

    def __eq__(self, other):
        if not isinstance(other, Question):
            return False
        return self._columns == other._columns and self._told == other._told and self._pairs == other._pairs

    @property
    def columns(self):
        """The variables whose names are answers."""
        return list(self._columns)

    @property
    def told(self):
        """The patterns that have to be facts."""
        return list(self._told)

    @property
    def pairs(self):
        """The pairs of terms that have to be unlike."""
        return list(self._pairs)


def _has_double(labels):
    return len(set(labels)) < len(labels)


def _place(label, labels):
    """The place of a label among others; any object may be asked for."""
    if label not in labels:
        raise UnknownName(label)
    return labels.index(label)
