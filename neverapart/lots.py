"""Which least lots of facts and rules a fact rests on, and which least lots it falls without."""

from neverapart.closing import leads_of, leads_to, what_follows
from neverapart.errors import InvalidLot
from neverapart.needs import need_fact, need_plain_book, need_plain_case, need_store
from neverapart.ways import Ways


def supports(book, store, fact):
    """All lots from which a fact follows, and does no longer without any of their items."""
    need_plain_case(book, store, fact)
    items = _items(book, store)
    return _least_lots(items, _tables(book, store, items, [fact])[fact])


def cuts(book, store, fact):
    """All lots without which a fact does not follow, though it does if one of their items stays."""
    need_plain_case(book, store, fact)
    items = _items(book, store)
    return _least_lots(items, _turned(_tables(book, store, items, [fact])[fact], len(items)))


def adds(book, store, could, fact):
    """All lists of further facts with which a fact follows, and does not if one of them is left out."""
    need_plain_book(book)
    need_store(store)
    need_store(could)
    need_fact(fact)
    items = [("fact", part) for part in sorted(could) if part not in store]
    tables = _tables(book, store + [part for _, part in items], items, [fact])
    return [[part for _, part in lot] for lot in _least_lots(items, tables[fact])]


def state(book, store, fact, taken, put):
    """Whether a fact surely, never or possibly follows if items may be taken out and facts put in."""
    need_plain_case(book, store, fact)
    if not _is_lot(taken, _items(book, store)):
        raise InvalidLot(taken)
    need_store(put)
    rules = [rule for rule in book.rules() if ("rule", rule.label) not in taken]
    if leads_to(leads_of(rules), [part for part in store if ("fact", part) not in taken], fact):
        return "sure"
    more = store + [part for part in put if part not in store]
    return "possible" if leads_to(leads_of(book.rules()), more, fact) else "never"


def facts_in_supports(book, store, goals):
    """The facts of a store that stand in a support of one of the goals, which are facts that follow."""
    items = _items(book, store)
    tables = _tables(book, store, items, goals)
    lots = [lot for table in sorted({tables[goal] for goal in goals}) for lot in _least_lots(items, table)]
    return sorted({thing for lot in lots for word, thing in lot if word == "fact"})


def _items(book, store):
    """The items of a book and a store, ascending."""
    return [("fact", fact) for fact in sorted(store)] + [("rule", label) for label in sorted(book.labels())]


def _is_lot(value, items):
    """Whether any object is an ascending list of different items among these, which ascend."""
    if not isinstance(value, list) or not all([item in items for item in value]):
        return False
    places = [items.index(item) for item in value]
    return places == sorted(set(places))


# Choices of items are numbered by their bits. A table is a number that has a bit for each choice: whether what it
# tells of holds with the items of this choice, and without all others.


def _tables(book, store, items, goals):
    """The tables of whether goals, and what stands behind them, follow; what is no item is always there."""
    always = (1 << (1 << len(items))) - 1
    own = {item: _table_of_item(place, len(items)) for place, item in enumerate(items)}
    ways = Ways(book.rules(), what_follows(leads_of(book.rules()), store)).behind(goals)
    tables = {part: own.get(("fact", part), always) if part in store else 0 for part in ways}
    rules = {label: own.get(("rule", label), always) for label in book.labels()}
    turned = True
    while turned:
        turned = False
        for part in ways:
            table = tables[part]
            for label, told in ways[part]:
                table = table | _all_hold(rules[label], [tables[one] for one in told])
            if table != tables[part]:
                tables[part] = table
                turned = True
    return tables


def _table_of_item(place, many):
    """The table of whether an item is chosen."""
    return sum([1 << choice for choice in range(1 << many) if choice >> place & 1])


def _all_hold(table, tables):
    for one in tables:
        table = table & one
    return table


def _turned(table, many):
    """The table of whether something does not hold without the items of a choice."""
    whole = (1 << many) - 1
    return sum([1 << choice for choice in range(1 << many) if not table >> (whole ^ choice) & 1])


def _least_lots(items, table):
    """All choices at which something holds, and does not with any of their items less, as ascending lots."""
    lots = []
    for choice in range(1 << len(items)):
        places = [place for place in range(len(items)) if choice >> place & 1]
        if table >> choice & 1 and not any([table >> (choice ^ 1 << place) & 1 for place in places]):
            lots.append([items[place] for place in places])
    return sorted(lots)
