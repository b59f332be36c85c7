"""Deeds: what is taken out of a store, and put in, where patterns are told."""

from neverapart.errors import InvalidDeed
from neverapart.forms import has_more, is_count, is_name, is_pairs, is_patterns, is_whole, sides_of, terms_of


class Deed:
    """A deed takes facts of told patterns out, and puts others in, unless pairs are alike or denied ones are there."""

    def __init__(self, label, rank, told, takes, puts, pairs=None, denied=None):
        if not is_name(label):
            raise InvalidDeed(label)
        if not is_whole(rank):
            raise InvalidDeed(rank)
        if not is_patterns(told):
            raise InvalidDeed(told)
        if not _is_places(takes, len(told)):
            raise InvalidDeed(takes)
        if not is_patterns(puts):
            raise InvalidDeed(puts)
        if pairs is not None and not is_pairs(pairs):
            raise InvalidDeed(pairs)
        if denied is not None and not is_patterns(denied):
            raise InvalidDeed(denied)
        if has_more(terms_of(puts), told):
            raise InvalidDeed(puts)
        if has_more(sides_of(pairs or []), told):
            raise InvalidDeed(pairs)
        if has_more(terms_of(denied or []), told):
            raise InvalidDeed(denied)
        self._label = label
        self._rank = rank
        self._told = list(told)
        self._takes = list(takes)
        self._puts = list(puts)
        self._pairs = list(pairs or [])
        self._denied = list(denied or [])

    def __eq__(self, other):
        if not isinstance(other, Deed):
            return False
        if self._label != other._label or self._rank != other._rank or self._told != other._told:
            return False
        if self._takes != other._takes or self._puts != other._puts:
            return False
        return self._pairs == other._pairs and self._denied == other._denied

    @property
    def label(self):
        """The name of the deed within a list."""
        return self._label

    @property
    def rank(self):
        """Of the deeds that fire, those of the greatest rank do."""
        return self._rank

    @property
    def told(self):
        """The patterns that have to be facts."""
        return list(self._told)

    @property
    def takes(self):
        """The positions of the told patterns whose facts are taken out."""
        return list(self._takes)

    @property
    def puts(self):
        """The patterns whose facts are put in."""
        return list(self._puts)

    @property
    def pairs(self):
        """The pairs of terms that have to be unlike."""
        return list(self._pairs)

    @property
    def denied(self):
        """The patterns that must not be facts."""
        return list(self._denied)


def _is_places(value, many):
    """Whether any object is a list of different positions of that many patterns."""
    if not isinstance(value, list) or not all([is_count(part) and part < many for part in value]):
        return False
    return len(set(value)) == len(value)
