"""What rules with denied patterns mean: layer by layer, and in accounts that can be checked line by line."""

from neverapart.closing import leads_against, rounds_to
from neverapart.errors import InvalidLayers, NotLayered
from neverapart.forms import filled, is_count, is_fact, is_kind, is_name, kind_of, match_at
from neverapart.joins import by_kind
from neverapart.needs import need_book, need_plain_book, need_store
from neverapart.ways import Back


def layering(book):
    """The lists of kinds in which each kind stands as early as it can."""
    need_book(book)
    return _layers(book.rules())


def check_layering(book, value):
    """Whether any object is a layering of a book."""
    need_book(book)
    return _is_layering(book.rules(), value)


def meaning(book, store):
    """What follows from a store, list by list of the layering."""
    need_book(book)
    layers = _layers(book.rules())
    need_store(store)
    return _all_facts(_rounds_by(book.rules(), store, layers))


def meaning_by(book, store, layers):
    """What follows from a store, list by list of the layering that is passed."""
    need_book(book)
    need_store(store)
    if not _is_layering(book.rules(), layers):
        raise InvalidLayers(layers)
    return _all_facts(_rounds_by(book.rules(), store, layers))


def account(book, store):
    """Any lines, each with what it rests on, that tell the meaning of a store."""
    need_book(book)
    rules = book.rules()
    layers = _layers(rules)
    need_store(store)
    lists = _rounds_by(rules, store, layers)
    facts = [fact for part in lists for fact in part]
    places = {fact: place for place, fact in enumerate(facts)}
    ranks = {fact: rank for rank, part in enumerate(lists) for fact in part}
    shelf = by_kind(facts)
    backs = [(rule, Back(rule)) for rule in rules]
    lines = [(None, fact, []) for fact in lists[0]]
    for fact in facts[len(lines):]:
        label, told = _lower_way(backs, shelf, ranks, fact)
        lines.append((label, fact, [places[part] for part in told]))
    return lines


def check_account(book, store, value):
    """Whether any object is an account of a store by a book."""
    need_book(book)
    need_store(store)
    if not isinstance(value, list) or not all([_is_line(part) for part in value]):
        return False
    rules = book.rules()
    facts = [line[1] for line in value]
    there = {fact: True for fact in facts}
    if len(there) < len(facts) or not all([fact in there for fact in store]):
        return False
    # All lines are looked at ahead of what they lead to, as only facts that rest on the store are few.
    for place, line in enumerate(value):
        if not _is_right_line(rules, store, facts[:place], line, there):
            return False
    return len(rounds_to(leads_against(rules, facts), facts, None)) == 1


def stands_on(top, book):
    """Whether no rule of a book leads to a kind that a plain book tells."""
    need_book(top)
    need_plain_book(book)
    kinds = [kind_of(pattern) for rule in book.rules() for pattern in rule.told]
    return not any([kind_of(rule.head) in kinds for rule in top.rules()])


def _kinds(rules):
    """The kinds that stand in rules, ascending."""
    return sorted({kind_of(pattern) for rule in rules for pattern in [rule.head] + rule.told + rule.denied})


def _layers(rules):
    """The layering of rules with each kind in as early a list as in any."""
    levels = {kind: 0 for kind in _kinds(rules)}
    turned = True
    while turned:
        turned = False
        for rule in rules:
            level = _least_level(rule, levels)
            # A layering has no more lists than there are kinds.
            if level >= len(levels):
                raise NotLayered(_ring(rules))
            if levels[kind_of(rule.head)] < level:
                levels[kind_of(rule.head)] = level
                turned = True
    many = 1 + max(list(levels.values()), default=-1)
    return [[kind for kind in levels if levels[kind] == level] for level in range(many)]


def _least_level(rule, levels):
    """The least level that the kind of the head of a rule can have."""
    ahead = [levels[kind_of(pattern)] for pattern in rule.told]
    return max([0] + ahead + [1 + levels[kind_of(pattern)] for pattern in rule.denied])


def _ring(rules):
    """A shortest list of different kinds that hang on one another in a ring, at least once by denial."""
    hangs = {}
    for rule in rules:
        below = [kind_of(pattern) for pattern in rule.told + rule.denied]
        hangs[kind_of(rule.head)] = hangs.get(kind_of(rule.head), []) + below
    denials = [(kind_of(rule.head), kind_of(pattern)) for rule in rules for pattern in rule.denied]
    ways = [_way(hangs, below, kind) for kind, below in denials]
    return min([way for way in ways if way is not None], key=len)


def _way(hangs, start, goal):
    """A shortest row of kinds from one to another, each hanging on the next one; None if there is none."""
    rows = [[start]]
    seen = {start: True}
    while rows:
        longer = []
        for row in rows:
            if row[-1] == goal:
                return row
            for kind in hangs.get(row[-1], []):
                if kind not in seen:
                    seen[kind] = True
                    longer.append(row + [kind])
        rows = longer
    return None


def _is_layering(rules, value):
    if not isinstance(value, list) or not all([isinstance(part, list) and len(part) > 0 for part in value]):
        return False
    kinds = [kind for part in value for kind in part]
    if not all([is_kind(kind) for kind in kinds]) or sorted(kinds) != _kinds(rules):
        return False
    levels = {kind: level for level, part in enumerate(value) for kind in part}
    return all([levels[kind_of(rule.head)] >= _least_level(rule, levels) for rule in rules])


def _rounds_by(rules, store, layers):
    """The facts of a store, then, layer by layer, the rounds in which others are led to."""
    lists = [sorted(store)]
    for kinds in layers:
        own = [rule for rule in rules if kind_of(rule.head) in kinds]
        facts = _all_facts(lists)
        lists = lists + rounds_to(leads_against(own, facts), facts, None)[1:]
    return lists


def _all_facts(lists):
    return sorted([fact for part in lists for fact in part])


def _lower_way(backs, shelf, ranks, fact):
    """The label of a rule and the facts of lower ranks from which it leads to a fact, no denied pattern being one."""
    ways = [(rule, way) for rule, back in backs for way in back.ways(fact, shelf)]
    lower = [(rule, way) for rule, way in ways if all([ranks[part] < ranks[fact] for part in way[1]])]
    return [way for rule, way in lower if not _is_denied(rule, match_at(rule.told, rule.pairs, way[1]), ranks)][0]


def _is_denied(rule, binding, there):
    """Whether a denied pattern of a rule is with these names one of the facts that are there."""
    return any([filled(pattern, binding) in there for pattern in rule.denied])


def _is_line(value):
    """Whether any object has the form of a line of an account."""
    if not isinstance(value, tuple) or len(value) != 3 or not isinstance(value[2], list):
        return False
    right = value[0] is None or is_name(value[0])
    return right and is_fact(value[1]) and all([is_count(place) for place in value[2]])


def _is_right_line(rules, store, ahead, line, there):
    """Whether a line has a fact of a store, or one to which a rule leads from facts ahead of it."""
    label, fact, sources = line
    if label is None:
        return fact in store and sources == []
    own = [rule for rule in rules if rule.label == label]
    if own == [] or not all([place < len(ahead) for place in sources]):
        return False
    rule = own[0]
    binding = match_at(rule.told, rule.pairs, [ahead[place] for place in sources])
    if binding is None or filled(rule.head, binding) != fact:
        return False
    return not _is_denied(rule, binding, there)
