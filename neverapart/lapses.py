"""Facts that last for a while: what follows at each moment, how long, and what would prolong it or cut it short."""

from neverapart.closing import leads_of, leads_to, what_follows
from neverapart.errors import InvalidDates, InvalidNumber
from neverapart.forms import is_fact, is_whole
from neverapart.joins import by_kind
from neverapart.lots import least_adds
from neverapart.needs import need_fact, need_plain_book, need_question
from neverapart.papers import lowest_paper
from neverapart.questions import answers_on
from neverapart.tables import fact_items, least_facts, lost_table, tables_of


def stands_at(dated, moment):
    """The facts that stand at a moment."""
    _need_dates(dated)
    _need_moment(moment)
    return _standing(dated, moment)


def closed_at(book, dated, moment):
    """What follows from the facts that stand at a moment."""
    need_plain_book(book)
    _need_dates(dated)
    _need_moment(moment)
    return what_follows(leads_of(book.rules()), _standing(dated, moment))


def how_long(book, dated, fact):
    """Whether a fact never or always follows, or until which moment it does."""
    _need_case(book, dated, fact)
    found = _facts_and_ends(book, dated)
    if fact not in found:
        return ("never",)
    return ("always",) if found[fact] is None else ("until", found[fact])


def last_moments(book, dated):
    """The facts that follow from all facts, each with the last moment at which it follows."""
    need_plain_book(book)
    _need_dates(dated)
    found = _facts_and_ends(book, dated)
    return [(fact, found[fact]) for fact in sorted(found)]


def timetable(book, dated):
    """The last moments of facts that follow, ascending, each with all these facts."""
    found = last_moments(book, dated)
    ends = sorted({last for _, last in found if last is not None})
    return [(end, [fact for fact, last in found if last == end]) for end in ends]


def answer_terms(book, question, dated):
    """The answers to a question in what follows from all facts, each with the last moment at which it is one."""
    need_plain_book(book)
    need_question(question)
    _need_dates(dated)
    leads = leads_of(book.rules())
    found = _ends([(last, answers_on(question, by_kind(what_follows(leads, store)))) for last, store in _stages(dated)])
    return [(answer, found[answer]) for answer in sorted(found)]


def lasting(book, dated, fact):
    """Any paper of a fact from facts that last at least as long as it does; None if it never follows."""
    _need_case(book, dated, fact)
    found = _facts_and_ends(book, dated)
    if fact not in found:
        return None
    return lowest_paper(book.rules(), leads_of(book.rules()), _standing(dated, found[fact]), fact)


def failing(book, dated, fact):
    """Any least list of facts, none of which lasts longer than a fact, without which it does not follow; or None."""
    _need_case(book, dated, fact)
    found = _facts_and_ends(book, dated)
    if fact not in found:
        return []
    end = found[fact]
    if end is None:
        return None
    leads = leads_of(book.rules())
    left = [part for part, last in dated if last is None or last > end]
    needed = []
    for part in sorted([given for given, _ in dated if given not in left]):
        if leads_to(leads, left + [part], fact):
            needed.append(part)
        else:
            left.append(part)
    return needed


def prolongings(book, dated, fact, moment):
    """All least lists of facts with which, if they stood at a moment, too, a fact would follow then."""
    _need_case(book, dated, fact)
    _need_moment(moment)
    return _prolongings(book, dated, fact, moment)


def cheapest(book, dated, fact, moment):
    """The least sum of the time by which facts of such a list would have to last longer, and any list with it."""
    _need_case(book, dated, fact)
    _need_moment(moment)
    ends = {part: last for part, last in dated}
    sums = [(sum([moment - ends[part] for part in facts]), facts) for facts in _prolongings(book, dated, fact, moment)]
    return min(sums) if sums else None


def cuts_short(book, dated, fact, moment):
    """All least lists of facts that stand at a moment and without which a fact would not follow then."""
    _need_case(book, dated, fact)
    _need_moment(moment)
    store = _standing(dated, moment)
    items = fact_items(store)
    return least_facts(items, lost_table(tables_of(book.rules(), store, items, [fact])[fact], len(items)))


def _is_dates(value):
    """Whether any object is a dated store."""
    if not isinstance(value, list):
        return False
    if not all([isinstance(part, tuple) and len(part) == 2 and is_fact(part[0]) for part in value]):
        return False
    if not all([part[1] is None or is_whole(part[1]) for part in value]):
        return False
    return len({fact for fact, _ in value}) == len(value)


def _need_dates(value):
    if not _is_dates(value):
        raise InvalidDates(value)


def _need_moment(value):
    if not is_whole(value):
        raise InvalidNumber(value)


def _need_case(book, dated, fact):
    need_plain_book(book)
    _need_dates(dated)
    need_fact(fact)


def _standing(dated, moment):
    """The facts that last until a moment, or for ever if it is None."""
    return sorted([fact for fact, last in dated if last is None or moment is not None and last >= moment])


def _stages(dated):
    """The tuples of each last moment, None first and then descending, and of the facts that last until then."""
    ends = sorted({last for _, last in dated if last is not None})
    return [(end, _standing(dated, end)) for end in [None] + ends[::-1]]


def _ends(stages):
    """A dictionary from the things of stages, the later moments ahead, to the first moment with which they stand."""
    found = {}
    for moment, things in stages:
        for thing in things:
            if thing not in found:
                found[thing] = moment
    return found


def _facts_and_ends(book, dated):
    """A dictionary from the facts that follow from all facts to the last moments at which they follow."""
    leads = leads_of(book.rules())
    return _ends([(last, what_follows(leads, store)) for last, store in _stages(dated)])


def _prolongings(book, dated, fact, moment):
    store = _standing(dated, moment)
    return least_adds(book.rules(), store, [part for part, _ in dated if part not in store], fact)
