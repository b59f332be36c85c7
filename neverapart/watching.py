"""Where guards have matches."""

from neverapart.joins import met


def breaks_on(guards, shelf):
    """The tuples of the label and the match of all matches of guards in the facts of a shelf, ascending."""
    return sorted([(guard.label, match) for guard in guards for match in met(guard.told, guard.pairs, shelf)])


def is_broken(guards, shelf):
    """Whether a guard has a match in the facts of a shelf."""
    for guard in guards:
        if met(guard.told, guard.pairs, shelf):
            return True
    return False
