"""Papers that show why a fact follows: lowest ones, smallest ones, how many there are, and checking any of them."""

from heapq import heapify, heappop, heappush

from neverapart.closing import leads_of, rounds_to, what_follows
from neverapart.forms import filled, is_fact, is_name, match_at
from neverapart.needs import need_plain_case
from neverapart.ways import Ways


def why(book, store, fact):
    """Any paper of the least height, or None."""
    need_plain_case(book, store, fact)
    return lowest_paper(book.rules(), leads_of(book.rules()), store, fact)


def smallest(book, store, fact):
    """Any paper of the least size, or None."""
    need_plain_case(book, store, fact)
    sizes, choices = _by_size(_ways_behind(book, store, fact), store)
    return _paper(fact, choices, sizes) if fact in sizes else None


def least_height(book, store, fact):
    """The least height of a paper of a fact, or None."""
    need_plain_case(book, store, fact)
    return _heights(rounds_to(leads_of(book.rules()), store, fact)).get(fact)


def least_size(book, store, fact):
    """The least size of a paper of a fact, or None."""
    need_plain_case(book, store, fact)
    sizes, _ = _by_size(_ways_behind(book, store, fact), store)
    return sizes.get(fact)


def check_paper(book, store, fact, value):
    """Whether any object is a paper of a fact."""
    need_plain_case(book, store, fact)
    return is_paper(book.rules(), store, fact, value)


def count_papers(book, store, fact):
    """How many papers a fact has; None if they are endlessly many."""
    need_plain_case(book, store, fact)
    return _numbers(_ways_behind(book, store, fact), store).get(fact)


def lowest_paper(rules, leads, store, fact):
    """Any paper of the least height by rules, which are made ready as leads; or None."""
    lists = rounds_to(leads, store, fact)
    heights = _heights(lists)
    if fact not in heights:
        return None
    ways = Ways(rules, [part for facts in lists for part in facts])
    choices = {}
    waiting = [fact]
    while waiting:
        here = waiting.pop()
        if here not in choices:
            choices[here] = _lowest_way(ways, heights, here)
            waiting.extend(choices[here][1] if choices[here] else [])
    return _paper(fact, choices, heights)


def is_paper(rules, store, fact, value):
    """Whether any object is a paper of a fact by rules: whether it states the fact, and each line in it is right."""
    by_label = {rule.label: rule for rule in rules}
    given = {part: True for part in store}
    # Equal papers are looked at once only, as few objects may stand for very many lines.
    seen = {fact: [value]}
    waiting = [value]
    if _stated(value) != fact:
        return False
    while waiting:
        paper = waiting.pop()
        if not _is_right_line(paper, given, by_label):
            return False
        parts = paper[3] if paper[0] == "by" else []
        for part in parts:
            others = seen.setdefault(_stated(part), [])
            if part not in others:
                others.append(part)
                waiting.append(part)
    return True


def _ways_behind(book, store, fact):
    return Ways(book.rules(), what_follows(leads_of(book.rules()), store)).behind([fact])


def _heights(lists):
    """The round in which each fact comes, which is the least height of its papers."""
    return {fact: height for height, facts in enumerate(lists) for fact in facts}


def _lowest_way(ways, heights, fact):
    """A way to a fact from lower ones; None for a given fact."""
    if heights[fact] == 0:
        return None
    lower = [way for way in ways.to_fact(fact) if all([heights[part] < heights[fact] for part in way[1]])]
    return lower[0]


def _by_size(ways, store):
    """The least size for each fact that follows, and a way of it, None for given facts."""
    edges = [(fact, way[1], way) for fact in ways for way in ways[fact]]
    uses = _uses([told for _, told, _ in edges])
    missing = [len(set(told)) for _, told, _ in edges]
    queue = [(0, fact, None) for fact in store if fact in ways]
    queue = queue + [(1, fact, way) for fact, told, way in edges if told == ()]
    heapify(queue)
    sizes = {}
    choices = {}
    # Nothing that is led to is smaller than what leads there: so what comes out first is the least.
    while queue:
        size, fact, way = heappop(queue)
        if fact not in sizes:
            sizes[fact] = size
            choices[fact] = way
            for at in uses.get(fact, []):
                missing[at] -= 1
                if missing[at] == 0:
                    more = 1 + sum([sizes[part] for part in edges[at][1]])
                    heappush(queue, (more, edges[at][0], edges[at][2]))
    return sizes, choices


def _uses(lists):
    """The places of the lists in which each fact stands."""
    uses = {}
    for place, facts in enumerate(lists):
        for fact in sorted(set(facts)):
            uses.setdefault(fact, []).append(place)
    return uses


def _numbers(ways, store):
    """How many papers each fact has, without those facts behind which one hangs on itself."""
    facts = list(ways)
    behind = [[part for _, told in ways[fact] for part in told] for fact in facts]
    uses = _uses(behind)
    missing = [len(set(parts)) for parts in behind]
    waiting = [place for place in range(len(facts)) if missing[place] == 0]
    numbers = {}
    while waiting:
        fact = facts[waiting.pop()]
        numbers[fact] = sum([_product([numbers[part] for part in told]) for _, told in ways[fact]])
        if fact in store:
            numbers[fact] += 1
        for place in uses.get(fact, []):
            missing[place] -= 1
            if missing[place] == 0:
                waiting.append(place)
    return numbers


def _product(numbers):
    total = 1
    for number in numbers:
        total = total * number
    return total


def _paper(fact, choices, ranks):
    """The paper of a fact by the ways that were chosen, each from facts of lower ranks."""
    papers = {}
    for here in sorted(list(choices), key=lambda part: ranks[part]):
        way = choices[here]
        if way is None:
            papers[here] = ("given", here)
        else:
            papers[here] = ("by", way[0], here, [papers[part] for part in way[1]])
    return papers[fact]


def _stated(value):
    """The fact that the last line of any object states, if it has the form of a paper; None otherwise."""
    if not isinstance(value, tuple) or len(value) not in (2, 4):
        return None
    if len(value) == 2:
        return value[1] if value[0] == "given" and is_fact(value[1]) else None
    right = value[0] == "by" and is_name(value[1]) and is_fact(value[2]) and isinstance(value[3], list)
    return value[2] if right else None


def _is_right_line(paper, given, by_label):
    """Whether what has the form of a paper has a given fact, or one to which its rule leads from those ahead of it."""
    if paper[0] == "given":
        return paper[1] in given
    facts = [_stated(part) for part in paper[3]]
    if paper[1] not in by_label or None in facts:
        return False
    rule = by_label[paper[1]]
    binding = match_at(rule.told, rule.pairs, facts)
    return binding is not None and filled(rule.head, binding) == paper[2]
