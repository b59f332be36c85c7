"""The forms that everything is made of: names, terms, facts, patterns, pairs and stores."""


def is_name(value):
    """Whether any object is a name."""
    return isinstance(value, str) and 1 <= len(value) <= 10 and all(["a" <= sign <= "z" for sign in value])


def is_variable(value):
    """Whether any object is a variable."""
    return isinstance(value, str) and 1 <= len(value) <= 3 and all(["A" <= sign <= "Z" for sign in value])


def is_term(value):
    """Whether any object is a term."""
    return is_name(value) or is_variable(value)


def is_fact(value):
    """Whether any object is a fact."""
    return isinstance(value, tuple) and 1 <= len(value) <= 4 and all([is_name(part) for part in value])


def is_pattern(value):
    """Whether any object is a pattern."""
    if not isinstance(value, tuple) or not 1 <= len(value) <= 4:
        return False
    return is_name(value[0]) and all([is_term(part) for part in value[1:]])


def is_store(value):
    """Whether any object is a store."""
    return isinstance(value, list) and all([is_fact(part) for part in value]) and len(set(value)) == len(value)


def is_patterns(value):
    """Whether any object is a list of patterns."""
    return isinstance(value, list) and all([is_pattern(part) for part in value])


def is_pair(value):
    """Whether any object is a tuple of two unlike terms, one of them a variable."""
    if not isinstance(value, tuple) or len(value) != 2 or not all([is_term(part) for part in value]):
        return False
    return value[0] != value[1] and any([is_variable(part) for part in value])


def is_pairs(value):
    """Whether any object is a list of pairs."""
    return isinstance(value, list) and all([is_pair(part) for part in value])


def is_whole(value):
    """Whether any object is a whole number."""
    return isinstance(value, int) and not isinstance(value, bool)


def is_count(value):
    """Whether any object is a count."""
    return is_whole(value) and value >= 0


def is_kind(value):
    """Whether any object is a kind."""
    if not isinstance(value, tuple) or len(value) != 2:
        return False
    return is_name(value[0]) and is_count(value[1]) and value[1] <= 3


def is_different_names(value):
    """Whether any object is a list of different names."""
    return isinstance(value, list) and all([is_name(part) for part in value]) and len(set(value)) == len(value)


def kind_of(pattern):
    """The kind of a fact or a pattern."""
    return pattern[0], len(pattern) - 1


def terms_of(patterns):
    """The terms of patterns as they stand there, one behind the other."""
    return [term for pattern in patterns for term in pattern[1:]]


def sides_of(pairs):
    """The terms of pairs, one behind the other."""
    return [term for pair in pairs for term in pair]


def variables_among(terms):
    """The different variables among terms, in the order in which they first stand there."""
    found = {}
    for term in terms:
        if is_variable(term):
            found[term] = True
    return list(found)


def names_among(terms):
    """The different names among terms, ascending."""
    return sorted({term for term in terms if is_name(term)})


def variables_of(patterns):
    """The different variables of patterns, in the order in which they first stand there."""
    return variables_among(terms_of(patterns))


def has_more(terms, told):
    """Whether a variable stands among terms that stands in no told pattern."""
    known = variables_of(told)
    return any([term not in known for term in variables_among(terms)])


def bound(pattern, fact, binding):
    """The names that variables have when a pattern is to be a fact, beside those they have; None if it cannot be."""
    if kind_of(pattern) != kind_of(fact):
        return None
    names = {term: binding[term] for term in binding}
    for term, name in zip(pattern[1:], fact[1:]):
        if is_variable(term) and term not in names:
            names[term] = name
        if names.get(term, term) != name:
            return None
    return names


def filled(pattern, binding):
    """What a pattern becomes with these names for its variables."""
    return pattern[:1] + tuple([binding.get(term, term) for term in pattern[1:]])


def lettered(terms):
    """A dictionary from variables to `A`, `B`, `C` and so on, in their order."""
    letters = "ABCDEFGHIJKLMNOPQRSTUVWXYZ"
    return {term: letters[place % 26] * (1 + place // 26) for place, term in enumerate(terms)}


def form_of(pattern):
    """A pattern with `A`, `B`, `C` for its variables, in the order in which they first stand in it."""
    return filled(pattern, lettered(variables_of([pattern])))


def keeps_apart(pairs, binding):
    """Whether the terms of no pair are alike with these names for their variables."""
    return all([binding.get(one, one) != binding.get(other, other) for one, other in pairs])


def match_at(told, pairs, facts):
    """The names of the variables at the match at which told patterns are facts, in their order; None without one."""
    if len(told) != len(facts):
        return None
    binding = {}
    for pattern, fact in zip(told, facts):
        binding = bound(pattern, fact, binding)
        if binding is None:
            return None
    return binding if keeps_apart(pairs, binding) else None
