"""An engine, whose facts and books come and go: what follows, views on it, undo and redo, trials, and a log."""

from neverapart.closing import came_and_went, leads_of, what_follows
from neverapart.errors import InvalidLog, NothingToRedo, NothingToUndo, TakenName, UnknownName
from neverapart.forms import is_fact
from neverapart.joins import by_kind
from neverapart.needs import (
    need_fact,
    need_known_name,
    need_new_name,
    need_plain_book,
    need_question,
    need_store,
)
from neverapart.papers import lowest_paper
from neverapart.questions import answers_on
from neverapart.rules import Book

# How many things stand behind the word of a change.
CHANGES = {"tell": 1, "take": 1, "put": 2, "drop": 1, "exchange": 2, "view": 2, "unview": 1}


class Standing:
    """What an engine has at a moment, and what comes of it; it never changes."""

    def __init__(self, held, library, watched, known, answered):
        self.held = held
        self.library = library
        self.watched = watched
        self.known = known
        self.answered = answered


class Course:
    """How an engine came to where it is, which never changes: what is, was done and was undone, with what was then."""

    def __init__(self, now, done, undone, altered):
        self.now = now
        self.done = done
        self.undone = undone
        self.altered = altered


class Trial:
    """A block behind which an engine is again as it was when the block began."""

    def __init__(self, engine):
        self._engine = engine
        self._course = None

    def __enter__(self):
        self._course = self._engine._course
        return self._engine

    def __exit__(self, kind, value, trace):
        engine = self._engine
        engine._course = self._course


class Engine:
    """Given facts, plain books under names and views under names, and what follows from them."""

    def __init__(self, store):
        need_store(store)
        self._course = Course(_standing(store, {}, {}), [], [], [])

    def __len__(self):
        return len(self._course.now.known)

    def __contains__(self, fact):
        return is_fact(fact) and fact in self._course.now.known

    def given(self):
        """The given facts."""
        return list(self._course.now.held)

    def closed(self):
        """What follows from the given facts by all rules."""
        return list(self._course.now.known)

    def why(self, fact):
        """Any paper of the least height of a fact, or None."""
        need_fact(fact)
        rules = _rules_in(self._course.now.library)
        return lowest_paper(rules, leads_of(rules), self._course.now.held, fact)

    def books(self):
        """The names of the books."""
        return sorted(self._course.now.library)

    def book(self, name):
        """The book with a name."""
        need_known_name(name, self._course.now.library)
        return self._course.now.library[name]

    def whole(self):
        """The book of all rules, book by book in the order of their names."""
        return Book(_rules_in(self._course.now.library))

    def tell(self, fact):
        """Makes a fact given; returns which facts come and go, as all methods up to `exchange` do."""
        need_fact(fact)
        now = self._course.now
        if fact in now.held:
            raise TakenName(fact)
        return self._turn(("tell", fact), _standing(now.held + [fact], now.library, now.watched))

    def take_back(self, fact):
        """Makes a fact no longer given."""
        need_fact(fact)
        now = self._course.now
        if fact not in now.held:
            raise UnknownName(fact)
        left = [other for other in now.held if other != fact]
        return self._turn(("take", fact), _standing(left, now.library, now.watched))

    def put_book(self, name, book):
        """Puts a book in under a name."""
        now = self._course.now
        need_new_name(name, now.library)
        need_plain_book(book)
        _need_new_labels(book, now.library)
        return self._turn(("put", name, book), _standing(now.held, _with(now.library, name, book), now.watched))

    def drop_book(self, name):
        """Takes a book out."""
        now = self._course.now
        need_known_name(name, now.library)
        return self._turn(("drop", name), _standing(now.held, _without(now.library, name), now.watched))

    def exchange(self, name, book):
        """Puts a book in the place of another one."""
        now = self._course.now
        need_known_name(name, now.library)
        need_plain_book(book)
        _need_new_labels(book, _without(now.library, name))
        return self._turn(("exchange", name, book), _standing(now.held, _with(now.library, name, book), now.watched))

    def put_view(self, name, question):
        """Keeps a question as a view under a name."""
        now = self._course.now
        need_new_name(name, now.watched)
        need_question(question)
        answered = _with(now.answered, name, answers_on(question, by_kind(now.known)))
        watched = _with(now.watched, name, question)
        self._look(("view", name, question), Standing(now.held, now.library, watched, now.known, answered))

    def drop_view(self, name):
        """Takes a view out."""
        now = self._course.now
        need_known_name(name, now.watched)
        watched, answered = _without(now.watched, name), _without(now.answered, name)
        self._look(("unview", name), Standing(now.held, now.library, watched, now.known, answered))

    def views(self):
        """The names of the views."""
        return sorted(self._course.now.watched)

    def question(self, name):
        """The question of a view."""
        need_known_name(name, self._course.now.watched)
        return self._course.now.watched[name]

    def seen(self, name):
        """The answers to the question of a view in what follows now."""
        need_known_name(name, self._course.now.watched)
        return list(self._course.now.answered[name])

    def turned(self):
        """The names of the views that the last call that may turn some has turned."""
        return list(self._course.altered)

    def log(self):
        """The changes that are not taken back, in their order."""
        return [change for change, _ in self._course.done]

    def undo(self):
        """Takes the last change back."""
        course = self._course
        if not course.done:
            raise NothingToUndo()
        change, then = course.done[-1]
        undone = course.undone + [(change, course.now)]
        self._course = Course(then, course.done[:-1], undone, _altered(course.now, then))

    def redo(self):
        """Makes the change again that was taken back last."""
        course = self._course
        if not course.undone:
            raise NothingToRedo()
        change, then = course.undone[-1]
        done = course.done + [(change, course.now)]
        self._course = Course(then, done, course.undone[:-1], _altered(course.now, then))

    def trial(self):
        """What makes a block behind which everything is again as it was."""
        return Trial(self)

    def attempt(self, action):
        """What a function returns for the engine, in a trial."""
        with self.trial():
            return action(self)

    def copy(self):
        """An independent engine that is the same."""
        other = Engine([])
        other._course = self._course
        return other

    def _turn(self, change, then):
        """Makes a change that may turn what follows; the tuple of the facts that come and of those that go."""
        course = self._course
        self._course = Course(then, course.done + [(change, course.now)], [], _altered(course.now, then))
        return came_and_went(course.now.known, then.known)

    def _look(self, change, then):
        """Makes a change of the views alone; one that is put in, again too, does not count as turned."""
        course = self._course
        left = [name for name in course.altered if name in then.watched]
        self._course = Course(then, course.done + [(change, course.now)], [], left)


def replayed(store, log):
    """An engine made of a store in which the changes of a log are made."""
    engine = Engine(store)
    if not isinstance(log, list) or not all([is_change(part) for part in log]):
        raise InvalidLog(log)
    for change in log:
        make_change(engine, change)
    return engine


def is_change(value):
    """Whether any object is a tuple of the word of a change with as many things behind it as it takes."""
    if not isinstance(value, tuple) or len(value) == 0 or not isinstance(value[0], str):
        return False
    return value[0] in CHANGES and len(value) == 1 + CHANGES[value[0]]


def make_change(engine, change):
    """Makes a change in an engine, and returns what its method returns."""
    word = change[0]
    if word == "tell":
        return engine.tell(change[1])
    if word == "take":
        return engine.take_back(change[1])
    if word == "put":
        return engine.put_book(change[1], change[2])
    if word == "drop":
        return engine.drop_book(change[1])
    if word == "exchange":
        return engine.exchange(change[1], change[2])
    if word == "view":
        return engine.put_view(change[1], change[2])
    return engine.drop_view(change[1])


def _standing(held, library, watched):
    known = what_follows(leads_of(_rules_in(library)), held)
    shelf = by_kind(known)
    answered = {name: answers_on(watched[name], shelf) for name in watched}
    return Standing(sorted(held), library, watched, known, answered)


def _rules_in(library):
    """The rules of all books, book by book in the order of their names."""
    return [rule for name in sorted(library) for rule in library[name].rules()]


def _need_new_labels(book, library):
    """Lets books pass that have no label of a rule of these others."""
    taken = [rule.label for rule in _rules_in(library)]
    for label in book.labels():
        if label in taken:
            raise TakenName(label)


def _with(things, name, thing):
    found = {other: things[other] for other in things}
    found[name] = thing
    return found


def _without(things, name):
    return {other: things[other] for other in things if other != name}


def _altered(before, after):
    """The names of the views that there are before and after, with unlike answers."""
    both = [name for name in sorted(after.watched) if name in before.watched]
    return [name for name in both if before.answered[name] != after.answered[name]]
