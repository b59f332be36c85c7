"""By which ways to give names to variables it is decided what holds on all stores."""

from neverapart.forms import keeps_apart, variables_of
from neverapart.givings import fresh_names, givings
from neverapart.joins import names_of_rules
from neverapart.watching import names_of_conditions


def deciding_bindings(asked, own, rules, guards, others):
    """The names for the variables of what is asked for, with own names, on which rules, guards and others are tried."""
    terms = variables_of(asked.told)
    names = own + names_of_rules(rules) + names_of_conditions(guards + others)
    fresh = fresh_names(len(terms), names)
    if all([thing.pairs == [] for thing in rules + guards + others]):
        # What follows without pairs still does when names are exchanged for others, also unlike ones for one.
        return [dict(zip(terms, fresh))]
    bindings = [dict(zip(terms, row)) for row in givings(len(terms), sorted(set(names)), fresh)]
    return [binding for binding in bindings if keeps_apart(asked.pairs, binding)]
