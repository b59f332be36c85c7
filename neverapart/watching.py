"""Where guards have matches, and whether stores are sound by them."""

from neverapart.closing import what_follows
from neverapart.joins import by_kind, met, names_in


def breaks_on(guards, shelf):
    """The tuples of the label and the match of all matches of guards in the facts of a shelf, ascending."""
    return sorted([(guard.label, match) for guard in guards for match in met(guard.told, guard.pairs, shelf)])


def is_broken(guards, shelf):
    """Whether a guard has a match in the facts of a shelf."""
    for guard in guards:
        if met(guard.told, guard.pairs, shelf):
            return True
    return False


def is_sound(leads, guards, store):
    """Whether no guard has a match in what follows from a store by rules that are made ready as leads."""
    return guards == [] or not is_broken(guards, by_kind(what_follows(leads, store)))


def names_of_conditions(things):
    """The names that stand in the conditions of guards or questions."""
    return [name for thing in things for name in names_in(thing.told, thing.pairs)]
