"""An engine, whose facts and books come and go: what follows, views on it, undo and redo, trials, and a log."""

from neverapart.changes import changed, holding_of, need_log, rules_in
from neverapart.closing import came_and_went, leads_of, what_follows
from neverapart.errors import NothingToRedo, NothingToUndo, Unsound
from neverapart.forms import is_fact
from neverapart.joins import by_kind
from neverapart.needs import need_fact, need_known_name, need_store
from neverapart.papers import lowest_paper
from neverapart.questions import answers_on
from neverapart.rules import Book
from neverapart.watching import breaks_on

# The words of changes that may turn what follows; what the methods of the others return is None.
TURNING = ("tell", "take", "put", "drop", "exchange")


class Standing:
    """What an engine holds at a moment, and what comes of it: what follows, and what views see; it never changes."""

    def __init__(self, holding, known, answered):
        self.holding = holding
        self.known = known
        self.answered = answered


class Course:
    """How an engine came to where it is, which never changes: what is, was done and was undone, with what was then."""

    def __init__(self, now, done, undone, altered):
        self.now = now
        self.done = done
        self.undone = undone
        self.altered = altered


class Trial:
    """A block behind which an engine is again as it was when the block began."""

    def __init__(self, engine):
        self._engine = engine
        self._course = None

    def __enter__(self):
        self._course = self._engine._course
        return self._engine

    def __exit__(self, kind, value, trace):
        engine = self._engine
        engine._course = self._course


class Engine:
    """Given facts, plain books under names and views under names, and what follows from them."""

    def __init__(self, store):
        need_store(store)
        self._course = begun(store, [])

    def __len__(self):
        return len(self._course.now.known)

    def __contains__(self, fact):
        return is_fact(fact) and fact in self._course.now.known

    def given(self):
        """The given facts."""
        return list(self._has().held)

    def closed(self):
        """What follows from the given facts by all rules."""
        return list(self._course.now.known)

    def why(self, fact):
        """Any paper of the least height of a fact, or None."""
        need_fact(fact)
        rules = rules_in(self._has().library)
        return lowest_paper(rules, leads_of(rules), self._has().held, fact)

    def books(self):
        """The names of the books."""
        return sorted(self._has().library)

    def book(self, name):
        """The book with a name."""
        need_known_name(name, self._has().library)
        return self._has().library[name]

    def whole(self):
        """The book of all rules, book by book in the order of their names."""
        return Book(rules_in(self._has().library))

    def tell(self, fact):
        """Makes a fact given; returns which facts come and go, as all methods up to `exchange` do."""
        return self._make(("tell", fact))

    def take_back(self, fact):
        """Makes a fact no longer given."""
        return self._make(("take", fact))

    def put_book(self, name, book):
        """Puts a book in under a name."""
        return self._make(("put", name, book))

    def drop_book(self, name):
        """Takes a book out."""
        return self._make(("drop", name))

    def exchange(self, name, book):
        """Puts a book in the place of another one."""
        return self._make(("exchange", name, book))

    def put_view(self, name, question):
        """Keeps a question as a view under a name."""
        return self._make(("view", name, question))

    def drop_view(self, name):
        """Takes a view out."""
        return self._make(("unview", name))

    def views(self):
        """The names of the views."""
        return sorted(self._has().watched)

    def question(self, name):
        """The question of a view."""
        need_known_name(name, self._has().watched)
        return self._has().watched[name]

    def seen(self, name):
        """The answers to the question of a view in what follows now."""
        need_known_name(name, self._has().watched)
        return list(self._course.now.answered[name])

    def turned(self):
        """The names of the views that the last call that may turn some has turned."""
        return list(self._course.altered)

    def log(self):
        """The changes that are not taken back, in their order."""
        return [change for change, _ in self._course.done]

    def undo(self):
        """Takes the last change back."""
        course = self._course
        if not course.done:
            raise NothingToUndo()
        change, then = course.done[-1]
        undone = course.undone + [(change, course.now)]
        self._course = Course(then, course.done[:-1], undone, _altered(course.now, then))

    def redo(self):
        """Makes the change again that was taken back last."""
        course = self._course
        if not course.undone:
            raise NothingToRedo()
        change, then = course.undone[-1]
        done = course.done + [(change, course.now)]
        self._course = Course(then, done, course.undone[:-1], _altered(course.now, then))

    def trial(self):
        """What makes a block behind which everything is again as it was."""
        return Trial(self)

    def attempt(self, action):
        """What a function returns for the engine, in a trial."""
        with self.trial():
            return action(self)

    def copy(self):
        """An independent engine that is the same."""
        other = Engine([])
        other._course = self._course
        return other

    def _has(self):
        return self._course.now.holding

    def _make(self, change):
        """Makes a change, and returns what the method that is called for it returns."""
        course = self._course
        then = _standing_behind(course.now, change)
        done = course.done + [(change, course.now)]
        if change[0] in TURNING:
            self._course = Course(then, done, [], _altered(course.now, then))
            return came_and_went(course.now.known, then.known)
        # A view that is put in, again too, does not count as turned.
        left = [name for name in course.altered if name in then.holding.watched]
        self._course = Course(then, done, [], left)
        return None


def replayed(store, log):
    """An engine made of a store in which the changes of a log are made."""
    engine = Engine(store)
    need_log(log)
    for change in log:
        make_change(engine, change)
    return engine


def make_change(engine, change):
    """Makes a change in an engine, and returns what its method returns."""
    return engine._make(change)


def begun(store, guards):
    """The course of an engine of a store, with guards, to which nothing was done yet."""
    holding = holding_of(store, guards)
    _need_sound(holding, holding.held)
    return Course(Standing(holding, holding.held, {}), [], [], [])


def _standing_behind(now, change):
    """What stands behind a change."""
    holding = changed(now.holding, change)
    known = now.known
    if change[0] in TURNING:
        known = what_follows(leads_of(rules_in(holding.library)), holding.held)
    _need_sound(holding, known)
    shelf = by_kind(known)
    watched = holding.watched
    return Standing(holding, known, {name: answers_on(watched[name], shelf) for name in watched})


def _need_sound(holding, known):
    """Lets pass what its guards let be sound, where this follows."""
    found = breaks_on(holding.posted, by_kind(known))
    if found:
        raise Unsound(found)


def _altered(before, after):
    """The names of the views that there are before and after, with unlike answers."""
    both = [name for name in sorted(after.holding.watched) if name in before.holding.watched]
    return [name for name in both if before.answered[name] != after.answered[name]]
