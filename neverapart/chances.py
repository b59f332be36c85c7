"""Facts that stand with chances: what follows with which chance, on what it hangs, and trees of cases that show it.

Worlds are numbered by the bits of the facts that stand in them, ascending, as choices are in tables.
"""

from math import gcd

from neverapart.closing import leads_of, what_follows
from neverapart.errors import InvalidChances
from neverapart.forms import is_count, is_fact, is_whole
from neverapart.joins import by_kind
from neverapart.needs import need_fact, need_plain_book, need_question, need_store
from neverapart.questions import answers_on
from neverapart.tables import all_hold, always, fact_items, tables_of


def chance(book, chanced, fact):
    """The chance that a fact follows."""
    _need_case(book, chanced, fact)
    worlds = Worlds(book, chanced)
    return _quotient(worlds.weight(worlds.table(fact)), worlds.whole_weight)


def chance_all(book, chanced, facts):
    """The chance that all facts of a store follow."""
    _need_facts_case(book, chanced, facts)
    worlds = Worlds(book, chanced)
    return _quotient(worlds.weight(worlds.table_of_all(facts)), worlds.whole_weight)


def chance_some(book, chanced, facts):
    """The chance that at least one fact of a store follows."""
    _need_facts_case(book, chanced, facts)
    worlds = Worlds(book, chanced)
    table = 0
    for fact in facts:
        table = table | worlds.table(fact)
    return _quotient(worlds.weight(table), worlds.whole_weight)


def chance_given(book, chanced, fact, known):
    """The chance that a fact follows where all facts of a store do; None if these do with no chance."""
    _need_case(book, chanced, fact)
    need_store(known)
    worlds = Worlds(book, chanced)
    table = worlds.table_of_all(known)
    weight = worlds.weight(table)
    return _quotient(worlds.weight(table & worlds.table(fact)), weight) if weight > 0 else None


def expected(book, chanced):
    """The sum of the chances of all facts that follow."""
    need_plain_book(book)
    _need_chances(chanced)
    worlds = Worlds(book, chanced)
    return _quotient(sum([worlds.weight(worlds.table(fact)) for fact in worlds.known]), worlds.whole_weight)


def answer_chances(book, question, chanced):
    """All answers that a question has with a chance above 0, each with this chance."""
    worlds, lists = _worlds_and_answers(book, question, chanced)
    sums = {}
    for weight, answers in zip(worlds.weights, lists):
        for answer in answers:
            sums[answer] = sums.get(answer, 0) + weight
    return [(answer, _quotient(sums[answer], worlds.whole_weight)) for answer in sorted(sums) if sums[answer] > 0]


def chance_answered(book, question, chanced):
    """The chance that a question has at least one answer."""
    worlds, lists = _worlds_and_answers(book, question, chanced)
    weights = [weight for weight, answers in zip(worlds.weights, lists) if answers]
    return _quotient(sum(weights), worlds.whole_weight)


def spread(book, question, chanced):
    """The chances that a question has no answer, one, two, and so on, up to all that it may have."""
    worlds, lists = _worlds_and_answers(book, question, chanced)
    sums = [0 for _ in range(len(lists[-1]) + 1)]
    for weight, answers in zip(worlds.weights, lists):
        sums[len(answers)] += weight
    return [_quotient(weight, worlds.whole_weight) for weight in sums]


def levers(book, chanced, fact):
    """The given facts, each with how much more chance a fact has if the given one stands for certain."""
    _need_case(book, chanced, fact)
    return [(given, _quotient(part, whole)) for given, part, whole in _levers(book, chanced, fact)]


def critical(book, chanced, fact):
    """The given facts whose lever for a fact is the greatest."""
    _need_case(book, chanced, fact)
    found = _levers(book, chanced, fact)
    # Quotients are compared across, as no division is exact.
    return [given for given, part, whole in found if all([part * under >= over * whole for _, over, under in found])]


def likeliest(book, chanced, fact):
    """The greatest chance of a world from which a fact follows, and any world with it; None if there is no chance."""
    _need_case(book, chanced, fact)
    worlds = Worlds(book, chanced)
    table = worlds.table(fact)
    best = max([(weight, world) for world, weight in enumerate(worlds.weights) if table >> world & 1] + [(0, 0)])
    weight, world = best
    return (_quotient(weight, worlds.whole_weight), worlds.facts_in(world)) if weight > 0 else None


def cases(book, chanced, fact):
    """Any tree of cases for a fact."""
    _need_case(book, chanced, fact)
    worlds = Worlds(book, chanced)
    return _tree(worlds.stock, worlds.table(fact), 0, 0, 0)


def check_cases(book, chanced, fact, value):
    """Whether any object is a tree of cases for a fact."""
    _need_case(book, chanced, fact)
    worlds = Worlds(book, chanced)
    ends = _ends(worlds.stock, value, 0, 0)
    return ends is not None and all([_is_right_end(worlds.table(fact), len(worlds.stock), end) for end in ends])


def cases_chance(chanced, value):
    """The chance that a tree of cases comes to yes; None for any object that is no such tree."""
    _need_chances(chanced)
    ends = _ends([fact for fact, _ in chanced], value, 0, 0)
    if ends is None:
        return None
    parts = [_weight_on_way([odds for _, odds in chanced], yes, no) for word, yes, no in ends if word == "yes"]
    return _quotient(sum(parts), _product([odds[1] for _, odds in chanced]))


class Worlds:
    """The worlds of a chanced store, with their weights, and what follows from them by a book."""

    def __init__(self, book, chanced):
        rows = sorted(chanced)
        self.stock = [fact for fact, _ in rows]
        self.known = what_follows(leads_of(book.rules()), self.stock)
        # The chance of a world is its weight by the whole one.
        self.weights = _weights([odds for _, odds in rows])
        self.whole_weight = sum(self.weights)
        self._tables = tables_of(book.rules(), self.stock, fact_items(self.stock), self.known)

    def table(self, fact):
        """The table of the worlds from which a fact follows."""
        return self._tables.get(fact, 0)

    def table_of_all(self, facts):
        """The table of the worlds from which all of some facts follow."""
        return all_hold(always(len(self.stock)), [self.table(fact) for fact in facts])

    def weight(self, table):
        """The sum of the weights of the worlds of a table."""
        return sum([weight for world, weight in enumerate(self.weights) if table >> world & 1])

    def facts_in(self, world):
        """The facts that stand in a world."""
        return [fact for place, fact in enumerate(self.stock) if world >> place & 1]

    def facts_behind(self, world):
        """The facts that follow from a world."""
        return [fact for fact in self.known if self._tables[fact] >> world & 1]


def _is_chance(value):
    if not isinstance(value, tuple) or len(value) != 2 or not is_count(value[0]) or not is_whole(value[1]):
        return False
    return value[1] >= 1 and value[0] <= value[1]


def _need_chances(value):
    """Lets chanced stores pass."""
    if not isinstance(value, list) or not all([isinstance(part, tuple) and len(part) == 2 for part in value]):
        raise InvalidChances(value)
    if not all([is_fact(part[0]) and _is_chance(part[1]) for part in value]):
        raise InvalidChances(value)
    if len({fact for fact, _ in value}) < len(value):
        raise InvalidChances(value)


def _need_case(book, chanced, fact):
    need_plain_book(book)
    _need_chances(chanced)
    need_fact(fact)


def _need_facts_case(book, chanced, facts):
    need_plain_book(book)
    _need_chances(chanced)
    need_store(facts)


def _worlds_and_answers(book, question, chanced):
    """The worlds, and the answers to a question in what follows from each of them."""
    need_plain_book(book)
    need_question(question)
    _need_chances(chanced)
    worlds = Worlds(book, chanced)
    shelves = [by_kind(worlds.facts_behind(world)) for world in range(len(worlds.weights))]
    return worlds, [answers_on(question, shelf) for shelf in shelves]


def _quotient(part, whole):
    """A quotient without a common divisor above 1."""
    common = gcd(part, whole)
    return part // common, whole // common


def _product(numbers):
    total = 1
    for number in numbers:
        total = total * number
    return total


def _weights(odds):
    """The weights of all worlds of facts with these chances, in the order of the numbers of the worlds."""
    weights = [1]
    for part, whole in odds:
        weights = [weight * (whole - part) for weight in weights] + [weight * part for weight in weights]
    return weights


def _levers(book, chanced, fact):
    """The tuples of a given fact and of the part and the whole of its lever, ascending."""
    worlds = Worlds(book, chanced)
    table = worlds.table(fact)
    odds = [own for _, own in sorted(chanced)]
    found = []
    for place, given in enumerate(worlds.stock):
        others = _weights(odds[:place] + [(1, 2)] + odds[place + 1:])
        # Half of all stands with the given fact; each half is what there is if it stands for certain, or does not.
        parts = [weight if world >> place & 1 else -weight for world, weight in enumerate(others) if table >> world & 1]
        found.append((given, sum(parts), sum(others) // 2))
    return found


def _tree(stock, table, place, yes, no):
    """A tree of cases in which the facts from a place on are asked, those ahead being answered already."""
    if table >> yes & 1:
        return ("yes",)
    if not table >> (((1 << len(stock)) - 1) ^ no) & 1:
        return ("no",)
    bit = 1 << place
    one = _tree(stock, table, place + 1, yes | bit, no)
    return "ask", stock[place], one, _tree(stock, table, place + 1, yes, no | bit)


def _ends(stock, value, yes, no):
    """The tuples of the word of each end of a tree and of what is answered yes and no on the way; None for no tree."""
    if value in (("yes",), ("no",)):
        return [(value[0], yes, no)]
    if not isinstance(value, tuple) or len(value) != 4 or value[0] != "ask" or value[1] not in stock:
        return None
    bit = 1 << stock.index(value[1])
    if (yes | no) & bit:
        return None
    one = _ends(stock, value[2], yes | bit, no)
    other = _ends(stock, value[3], yes, no | bit)
    return None if one is None or other is None else one + other


def _is_right_end(table, many, end):
    word, yes, no = end
    if word == "yes":
        return table >> yes & 1 == 1
    return table >> (((1 << many) - 1) ^ no) & 1 == 0


def _weight_on_way(odds, yes, no):
    """The weight of all worlds on the way to an end."""
    total = 1
    for place, (part, whole) in enumerate(odds):
        if yes >> place & 1:
            total = total * part
        else:
            total = total * (whole - part if no >> place & 1 else whole)
    return total
