"""Editions, which tell what an engine holds, where they meet and weave, and branches of changes."""

from itertools import combinations

from neverapart.books import alike
from neverapart.changes import changed, changed_or_none, holding_of, is_change, need_log, rules_in
from neverapart.editions import edition_of, held_in, need_edition
from neverapart.errors import InvalidEdition, InvalidLog, InvalidNumber, NotMeeting
from neverapart.forms import is_count
from neverapart.live import Engine
from neverapart.needs import need_known_name, need_new_name, need_store
from neverapart.questions import same_answers
from neverapart.rules import Book, Question
from neverapart.texts import book_text, question_text


def edition(engine):
    """The edition of an engine."""
    if not isinstance(engine, Engine):
        raise InvalidEdition(engine)
    books = {name: engine.book(name) for name in engine.books()}
    return engine.given(), books, {name: engine.question(name) for name in engine.views()}


def engine_of(edition):
    """An engine of the given facts of an edition, with its books and views."""
    need_edition(edition)
    given, books, views = edition
    engine = Engine(given)
    for name in sorted(books):
        engine.put_book(name, books[name])
    for name in sorted(views):
        engine.put_view(name, views[name])
    return engine


def behind(edition, log):
    """The edition behind the changes of a log."""
    need_edition(edition)
    need_log(log)
    return edition_of(_behind(held_in(edition), log))


def unlike_spots(one, other):
    """The spots at which two editions are not alike."""
    need_edition(one)
    need_edition(other)
    return [spot for spot in _spots([one, other]) if not _are_alike(_thing_at(one, spot), _thing_at(other, spot))]


def steps(one, other):
    """The changes that lead from one edition to another one."""
    need_edition(one)
    need_edition(other)
    taken = [("take", fact) for fact in one[0] if fact not in other[0]]
    told = [("tell", fact) for fact in other[0] if fact not in one[0]]
    dropped = [("drop", name) for name in _unequal(one[1], other[1])]
    put = [("put", name, other[1][name]) for name in _unequal(other[1], one[1])]
    hidden = [("unview", name) for name in _unequal(one[2], other[2])]
    shown = [("view", name, other[2][name]) for name in _unequal(other[2], one[2])]
    return taken + told + dropped + put + hidden + shown


def conflicts(base, one, other):
    """The spots at which two editions that came of a third one conflict, or else the labels."""
    _need_editions([base, one, other])
    return _conflicts(base, one, other)


def meeting(base, one, other):
    """The edition at which two editions meet that came of a third one."""
    _need_editions([base, one, other])
    found = _conflicts(base, one, other)
    if found:
        raise NotMeeting(found)
    return _meeting(base, one, other)


def weaves(edition, one, other):
    """Any weave of two logs that cannot be made, or two that come to unequal editions; None if there are none."""
    need_edition(edition)
    need_log(one)
    need_log(other)
    first = held_in(edition)
    found = []
    for weave in _all_weaves(one, other):
        end = _end_or_none(first, weave)
        if end is None:
            return [weave]
        found.append((weave, edition_of(end)))
    begun, goal = found[0]
    unequal = [weave for weave, end in found if end != goal]
    return [begun, unequal[0]] if unequal else None


def left_out(edition, log, position):
    """A log without a change, if the others can be made without it; else the position of the first that cannot."""
    need_edition(edition)
    need_log(log)
    here = held_in(edition)
    _behind(here, log)
    if not is_count(position) or position >= len(log):
        raise InvalidNumber(position)
    for place, change in enumerate(log):
        if place != position:
            here = changed_or_none(here, change)
            if here is None:
                return place
    return log[:position] + log[position + 1:]


class Tree:
    """Branches of changes, each forked off another one, behind an engine of a store."""

    def __init__(self, store):
        need_store(store)
        self._logs = {"main": []}
        # What is held behind each number of changes of a branch.
        self._stages = {"main": [holding_of(store, [])]}
        self._forks = {}

    def branches(self):
        """The names of the branches."""
        return sorted(self._logs)

    def log(self, branch):
        """The changes of a branch from the very beginning."""
        need_known_name(branch, self._logs)
        return list(self._logs[branch])

    def edition(self, branch):
        """The edition behind the changes of a branch."""
        need_known_name(branch, self._logs)
        return edition_of(self._stages[branch][-1])

    def change(self, branch, change):
        """Puts a change behind a branch."""
        need_known_name(branch, self._logs)
        if not is_change(change):
            raise InvalidLog(change)
        self._put_behind(branch, change)

    def fork(self, branch, moment, name):
        """Puts a branch in under a name, with the first changes of another one."""
        need_known_name(branch, self._logs)
        if not is_count(moment) or moment > len(self._logs[branch]):
            raise InvalidNumber(moment)
        need_new_name(name, self._logs)
        self._logs[name] = self._logs[branch][:moment]
        self._stages[name] = self._stages[branch][:moment + 1]
        self._forks[name] = (branch, moment)

    def base(self, one, other):
        """How many changes two branches have in common."""
        need_known_name(one, self._logs)
        need_known_name(other, self._logs)
        numbers, others = self._numbers_towards_main(one), self._numbers_towards_main(other)
        met = [min(numbers[name], others[name]) for name in numbers if name in others]
        # Both go on alike from the first branch that they have in common.
        return met[0]

    def join(self, one, other):
        """Puts the changes behind a branch that lead to the meeting with another one, and returns them."""
        common = self.base(one, other)
        base, here = edition_of(self._stages[one][common]), self.edition(one)
        changes = steps(here, meeting(base, here, self.edition(other)))
        for change in changes:
            self._put_behind(one, change)
        return changes

    def _put_behind(self, branch, change):
        stage = changed(self._stages[branch][-1], change)
        self._logs[branch].append(change)
        self._stages[branch].append(stage)

    def _numbers_towards_main(self, name):
        """A dictionary from the branches from one to `main` to the fewest changes that are common along the way."""
        number = len(self._logs[name])
        found = {name: number}
        while name in self._forks:
            name, moment = self._forks[name]
            number = min(number, moment)
            found[name] = number
        return found


def _need_editions(values):
    for value in values:
        need_edition(value)


def _behind(holding, log):
    """What is held behind the changes of a log."""
    for change in log:
        holding = changed(holding, change)
    return holding


def _end_or_none(holding, log):
    """What is held behind the changes of a log; None if one of them cannot be made."""
    for change in log:
        holding = changed_or_none(holding, change)
        if holding is None:
            return None
    return holding


def _all_weaves(one, other):
    """All weaves of two logs."""
    found = []
    for places in combinations(range(len(one) + len(other)), len(one)):
        weave = list(other)
        # The places ascend, so what is put in later moves nothing that stands there already.
        for place, change in zip(places, one):
            weave.insert(place, change)
        found.append(weave)
    return found


def _unequal(things, others):
    """The names under which there is something that is not equal to what others have there."""
    return [name for name in sorted(things) if name not in others or others[name] != things[name]]


def _spots(editions):
    """The spots at which something stands in one of some editions, ascending."""
    facts = sorted({fact for given, _, _ in editions for fact in given})
    books = sorted({name for _, library, _ in editions for name in library})
    views = sorted({name for _, _, watched in editions for name in watched})
    return [("book", name) for name in books] + [("fact", fact) for fact in facts] + [("view", name) for name in views]


def _thing_at(edition, spot):
    """What stands at a spot of an edition: True for a fact that is given; None if nothing does."""
    given, books, views = edition
    word, place = spot
    if word == "fact":
        return True if place in given else None
    return books.get(place) if word == "book" else views.get(place)


def _are_alike(this, that):
    """Whether what stands at two spots of one kind is alike."""
    if this is None or that is None:
        return this is None and that is None
    if isinstance(this, Book):
        return alike(this, that)
    return same_answers(this, that) if isinstance(this, Question) else True


def _conflicts(base, one, other):
    spots = _spots([base, one, other])
    found = [spot for spot in spots if _is_torn(_thing_at(base, spot), _thing_at(one, spot), _thing_at(other, spot))]
    if found:
        return found
    labels = [rule.label for rule in rules_in(_meeting(base, one, other)[1])]
    return [("label", label) for label in sorted({label for label in labels if labels.count(label) > 1})]


def _is_torn(here, this, that):
    """Whether no two of three things that stand at one spot are alike."""
    return not (_are_alike(here, this) or _are_alike(here, that) or _are_alike(this, that))


def _meeting(base, one, other):
    """The edition at which two editions meet that conflict at no spot."""
    facts = []
    books = {}
    views = {}
    for spot in _spots([base, one, other]):
        thing = _choice(_thing_at(base, spot), _thing_at(one, spot), _thing_at(other, spot))
        word, place = spot
        if thing is not None and word == "fact":
            facts.append(place)
        elif thing is not None and word == "book":
            books[place] = thing
        elif thing is not None:
            views[place] = thing
    return facts, books, views


def _choice(here, this, that):
    """What stands at a spot where things meet that came of a third one."""
    if _are_alike(here, this):
        return here if _are_alike(here, that) else that
    if _are_alike(here, that):
        return this
    # These two are alike; where nothing stands, or a fact, it makes no difference which of them is taken.
    return min([this, that], key=_writing)


def _writing(thing):
    """What decides between two alike things."""
    if isinstance(thing, Book):
        return book_text(thing)
    return question_text(thing) if isinstance(thing, Question) else ""
