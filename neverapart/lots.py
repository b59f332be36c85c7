"""Which least lots of facts and rules a fact rests on, and which least lots it falls without."""

from neverapart.closing import leads_of, leads_to
from neverapart.errors import InvalidLot
from neverapart.needs import need_fact, need_plain_book, need_plain_case, need_store
from neverapart.tables import fact_items, least_facts, least_lots, lost_table, tables_of


def supports(book, store, fact):
    """All lots from which a fact follows, and does no longer without any of their items."""
    need_plain_case(book, store, fact)
    items = _items(book, store)
    return least_lots(items, tables_of(book.rules(), store, items, [fact])[fact])


def cuts(book, store, fact):
    """All lots without which a fact does not follow, though it does if one of their items stays."""
    need_plain_case(book, store, fact)
    items = _items(book, store)
    return least_lots(items, lost_table(tables_of(book.rules(), store, items, [fact])[fact], len(items)))


def adds(book, store, could, fact):
    """All lists of further facts with which a fact follows, and does not if one of them is left out."""
    need_plain_book(book)
    need_store(store)
    need_store(could)
    need_fact(fact)
    return least_adds(book.rules(), store, [part for part in could if part not in store], fact)


def state(book, store, fact, taken, put):
    """Whether a fact surely, never or possibly follows if items may be taken out and facts put in."""
    need_plain_case(book, store, fact)
    if not _is_lot(taken, _items(book, store)):
        raise InvalidLot(taken)
    need_store(put)
    rules = [rule for rule in book.rules() if ("rule", rule.label) not in taken]
    if leads_to(leads_of(rules), [part for part in store if ("fact", part) not in taken], fact):
        return "sure"
    more = store + [part for part in put if part not in store]
    return "possible" if leads_to(leads_of(book.rules()), more, fact) else "never"


def least_adds(rules, store, more, fact):
    """All lists of some more facts, none of them in the store, that a fact needs to follow."""
    items = fact_items(more)
    return least_facts(items, tables_of(rules, store + more, items, [fact])[fact])


def facts_in_supports(book, store, goals):
    """The facts of a store that stand in a support of one of the goals, which are facts that follow."""
    items = _items(book, store)
    tables = tables_of(book.rules(), store, items, goals)
    lots = [lot for table in sorted({tables[goal] for goal in goals}) for lot in least_lots(items, table)]
    return sorted({thing for lot in lots for word, thing in lot if word == "fact"})


def _items(book, store):
    """The items of a book and a store, ascending."""
    return fact_items(store) + [("rule", label) for label in sorted(book.labels())]


def _is_lot(value, items):
    """Whether any object is an ascending list of different items among these, which ascend."""
    if not isinstance(value, list) or not all([item in items for item in value]):
        return False
    places = [items.index(item) for item in value]
    return places == sorted(set(places))
