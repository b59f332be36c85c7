"""Giving names to variables: names of a list, and fresh ones, which stand for all names that stand nowhere else."""


def fresh_names(many, taken):
    """The first fresh names, without taken ones."""
    found = []
    name = "x"
    while len(found) < many:
        if name not in taken:
            found.append(name)
        name = name + "x"
    return found


def givings(many, names, fresh):
    """All ways to give variables names of a list, or fresh ones, each next fresh one only behind the ones ahead."""
    rows = [((), 0)]
    for _ in range(many):
        old = [(row + (name,), used) for row, used in rows for name in names + fresh[:used]]
        rows = old + [(row + (fresh[used],), used + 1) for row, used in rows]
    return [row for row, _ in rows]
