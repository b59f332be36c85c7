"""Tables of what holds with which items of a choice there, and all other items not.

Choices of items are numbered by their bits. A table is a number that has a bit for each choice.
"""

from neverapart.closing import leads_of, what_follows
from neverapart.ways import Ways


def always(many):
    """The table of what holds at each choice of that many items."""
    return (1 << (1 << many)) - 1


def fact_items(facts):
    """The items of facts, ascending."""
    return [("fact", fact) for fact in sorted(facts)]


def tables_of(rules, store, items, goals):
    """The tables of whether goals, and what stands behind them, follow; what is no item is always there."""
    whole = always(len(items))
    own = {item: _table_of_item(place, len(items)) for place, item in enumerate(items)}
    ways = Ways(rules, what_follows(leads_of(rules), store)).behind(goals)
    tables = {part: own.get(("fact", part), whole) if part in store else 0 for part in ways}
    labels = {rule.label: own.get(("rule", rule.label), whole) for rule in rules}
    turned = True
    while turned:
        turned = False
        for part in ways:
            table = tables[part]
            for label, told in ways[part]:
                table = table | all_hold(labels[label], [tables[one] for one in told])
            if table != tables[part]:
                tables[part] = table
                turned = True
    return tables


def all_hold(table, tables):
    """The table of whether something, and all of others, hold."""
    for one in tables:
        table = table & one
    return table


def lost_table(table, many):
    """The table of whether something does not hold without the items of a choice."""
    whole = (1 << many) - 1
    return sum([1 << choice for choice in range(1 << many) if not table >> (whole ^ choice) & 1])


def least_lots(items, table):
    """All choices at which something holds, and does not with any of their items less, as ascending lots."""
    lots = []
    for choice in range(1 << len(items)):
        places = [place for place in range(len(items)) if choice >> place & 1]
        if table >> choice & 1 and not any([table >> (choice ^ 1 << place) & 1 for place in places]):
            lots.append([items[place] for place in places])
    return sorted(lots)


def least_facts(items, table):
    """The same for items that are all facts, as lists of these."""
    return [[fact for _, fact in lot] for lot in least_lots(items, table)]


def _table_of_item(place, many):
    """The table of whether an item is chosen."""
    return sum([1 << choice for choice in range(1 << many) if choice >> place & 1])
