"""An engine with guards, which lets no change pass behind which it would not be sound."""

from neverapart.changes import need_guarded_log, rules_in
from neverapart.forms import is_fact
from neverapart.guards import facts_tellable, least_repairs, need_guards
from neverapart.live import Engine, begun, make_change
from neverapart.needs import need_fact, need_store


class GuardedEngine(Engine):
    """An engine with guards: every engine looks at its guards ahead of a change, but only this one has some."""

    def __init__(self, store, guards):
        super().__init__(store)
        need_guards(guards)
        self._course = begun(store, guards)

    def __len__(self):
        return len(self._course.now.known)

    def __contains__(self, fact):
        return is_fact(fact) and fact in self._course.now.known

    def guards(self):
        """The guards, in the order in which they were put in."""
        return list(self._has().posted)

    def put_guard(self, guard):
        """Puts a guard behind the others."""
        return self._make(("guard", guard))

    def drop_guard(self, label):
        """Takes the guard with a label out."""
        return self._make(("unguard", label))

    def tellable(self, could):
        """The facts that can be told, each of them alone."""
        need_store(could)
        now = self._has()
        return facts_tellable(rules_in(now.library), now.posted, now.held, could)

    def room(self, fact):
        """All lists of given facts behind whose taking back a fact can be told, and cannot if any of them stays."""
        need_fact(fact)
        now = self._has()
        if fact in now.held:
            return [[]]
        return least_repairs(rules_in(now.library), now.posted, now.held + [fact], now.held)

    def given(self):
        """The given facts."""
        return super().given()

    def closed(self):
        """What follows from the given facts by all rules."""
        return super().closed()

    def why(self, fact):
        """Any paper of the least height of a fact, or None."""
        return super().why(fact)

    def books(self):
        """The names of the books."""
        return super().books()

    def book(self, name):
        """The book with a name."""
        return super().book(name)

    def whole(self):
        """The book of all rules, book by book in the order of their names."""
        return super().whole()

    def tell(self, fact):
        """Makes a fact given; returns which facts come and go, as all methods up to `exchange` do."""
        return super().tell(fact)

    def take_back(self, fact):
        """Makes a fact no longer given."""
        return super().take_back(fact)

    def put_book(self, name, book):
        """Puts a book in under a name."""
        return super().put_book(name, book)

    def drop_book(self, name):
        """Takes a book out."""
        return super().drop_book(name)

    def exchange(self, name, book):
        """Puts a book in the place of another one."""
        return super().exchange(name, book)

    def put_view(self, name, question):
        """Keeps a question as a view under a name."""
        return super().put_view(name, question)

    def drop_view(self, name):
        """Takes a view out."""
        return super().drop_view(name)

    def views(self):
        """The names of the views."""
        return super().views()

    def question(self, name):
        """The question of a view."""
        return super().question(name)

    def seen(self, name):
        """The answers to the question of a view in what follows now."""
        return super().seen(name)

    def turned(self):
        """The names of the views that the last call that may turn some has turned."""
        return super().turned()

    def log(self):
        """The changes that are not taken back, in their order."""
        return super().log()

    def undo(self):
        """Takes the last change back."""
        super().undo()

    def redo(self):
        """Makes the change again that was taken back last."""
        super().redo()

    def trial(self):
        """What makes a block behind which everything is again as it was."""
        return super().trial()

    def attempt(self, action):
        """What a function returns for the engine, in a trial."""
        return super().attempt(action)

    def copy(self):
        """An independent engine that is the same."""
        other = GuardedEngine([], [])
        other._course = self._course
        return other


def guarded_again(store, guards, log):
    """A guarded engine made of a store in which the changes of a log are made, those of guards among them."""
    need_store(store)
    need_guards(guards)
    need_guarded_log(log)
    engine = GuardedEngine(store, guards)
    for change in log:
        make_change(engine, change)
    return engine
