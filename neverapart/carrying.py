"""How names go from place to place when makings are made: what carries, what makes, and in which circles.

A place is a tuple of a kind and a column. A link is a tuple of the place that it begins at, the place that it leads
to, whether it makes, and a step, which tells the label of the maker, the column, the head and the column there.
"""

from neverapart.forms import is_count, is_fact, is_kind, kind_of, terms_of, variables_of


def carried_of(maker):
    """The variables that stand in the told pattern and in a head, in the order of the told pattern."""
    return [term for term in maker.told[1:] if term in terms_of(maker.heads)]


def made_of(maker):
    """The variables that stand in heads alone, in the order in which they first stand there."""
    return [term for term in variables_of(maker.heads) if term not in maker.told[1:]]


def places_of(makers):
    """The places of makers, ascending."""
    patterns = [pattern for maker in makers for pattern in maker.heads + [maker.told]]
    return sorted({place for pattern in patterns for place in _places_in(pattern)})


def links_of(makers):
    """All links of makers."""
    return [link for maker in makers for head in range(len(maker.heads)) for link in _links_to(maker, head)]


def least_counts(makers):
    """The least count for each place with which links that carry do not fall and those that make rise; or None."""
    links = links_of(makers)
    counts = {place: 0 for place in places_of(makers)}
    # Where counts end, none is above the number of other places, and each round sets at least one right.
    for _ in range(len(counts) + 1):
        higher = _raised(counts, links)
        if higher == counts:
            return counts
        counts = higher
    return None


def holds_along(counts, links):
    """Whether counts do not fall along links that carry, and rise along those that make."""
    return all([counts[there] >= counts[here] + makes for here, there, makes, _ in links])


def is_counting(makers, value):
    """Whether any object is a dictionary that tells a count for each place of makers, and for nothing else."""
    if not isinstance(value, dict) or not all([_is_place(key) and is_count(value[key]) for key in value]):
        return False
    return sorted(value) == places_of(makers)


def circle_in(makers):
    """Any row of links that leads back to where it begins, with one that makes; None if there is none."""
    links = links_of(makers)
    for link in links:
        here, there, makes, _ = link
        back = _row_between(links, there, here) if makes else None
        if back is not None:
            return [link] + back
    return None


def is_circle(makers, value):
    """Whether any object is a tuple of a list of one fact and steps that lead back, at least one of which makes."""
    if not isinstance(value, tuple) or len(value) != 2:
        return False
    store, steps = value
    if not isinstance(store, list) or len(store) != 1 or not is_fact(store[0]) or not isinstance(steps, list):
        return False
    links = [_link_of(makers, step) for step in steps]
    if None in links:
        return False
    turns = [links[place - 1][1] == links[place][0] for place in range(len(links))]
    return all(turns) and any([link[2] == 1 for link in links]) and links[0][0][0] == kind_of(store[0])


def _places_in(pattern):
    return [(kind_of(pattern), column) for column in range(len(pattern) - 1)]


def _is_place(value):
    return isinstance(value, tuple) and len(value) == 2 and is_kind(value[0]) and is_count(value[1])


def _links_to(maker, head):
    """The links of a maker to one of its heads."""
    carried, made = carried_of(maker), made_of(maker)
    pattern = maker.heads[head]
    links = []
    for column, term in enumerate(maker.told[1:]):
        for to, other in enumerate(pattern[1:]):
            if term in carried and (other == term or other in made):
                here, there = (kind_of(maker.told), column), (kind_of(pattern), to)
                links.append((here, there, 1 if other in made else 0, (maker.label, column, head, to)))
    return links


def _link_of(makers, step):
    """The link of makers with any object for its step, or None."""
    if not isinstance(step, tuple) or not all([is_count(part) for part in step[1:]]):
        return None
    for link in links_of(makers):
        if link[3] == step:
            return link
    return None


def _raised(counts, links):
    """Counts, each as high as links ask for that lead to its place."""
    higher = {place: counts[place] for place in counts}
    for here, there, makes, _ in links:
        higher[there] = max(higher[there], counts[here] + makes)
    return higher


def _row_between(links, here, there):
    """Any row of links from one place to another one; None if there is none."""
    rows = {here: []}
    waiting = [here]
    while waiting:
        place = waiting.pop()
        for link in links:
            if link[0] == place and link[1] not in rows:
                rows[link[1]] = rows[place] + [link]
                waiting.append(link[1])
    return rows.get(there)
