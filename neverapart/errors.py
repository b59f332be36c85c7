"""The errors of the package: each class is told in section 2 of the document."""


class NeverError(ValueError):
    """What all errors of the package are derived from."""


class InvalidFact(NeverError):
    """An argument that has to be a fact is none."""

    def __init__(self, value=None):
        self.value = value


class InvalidStore(NeverError):
    """An argument that has to be a store is none."""

    def __init__(self, value=None):
        self.value = value


class InvalidRule(NeverError):
    """An argument of a rule or a maker is wrong, or one that has to be such is none."""

    def __init__(self, value=None):
        self.value = value


class InvalidBook(NeverError):
    """An argument of a book is wrong, or one that has to be a book or a list of makers is none."""

    def __init__(self, value=None):
        self.value = value


class InvalidQuestion(NeverError):
    """An argument of a question is wrong, or one that has to be a question is none."""

    def __init__(self, value=None):
        self.value = value


class InvalidDeed(NeverError):
    """An argument of a deed is wrong, or one that has to be a deed or a list of deeds is none."""

    def __init__(self, value=None):
        self.value = value


class InvalidGoal(NeverError):
    """An argument that has to be a goal or a pattern is none."""

    def __init__(self, value=None):
        self.value = value


class InvalidScript(NeverError):
    """An argument that has to be a script is none."""

    def __init__(self, value=None):
        self.value = value


class InvalidEdition(NeverError):
    """An argument that has to be an edition is none."""

    def __init__(self, value=None):
        self.value = value


class InvalidGuard(NeverError):
    """An argument of a guard is wrong, or one that has to be a guard or a list of guards is none."""

    def __init__(self, value=None):
        self.value = value


class InvalidDates(NeverError):
    """An argument that has to be a dated store is none."""

    def __init__(self, value=None):
        self.value = value


class InvalidChances(NeverError):
    """An argument that has to be a chanced store is none."""

    def __init__(self, value=None):
        self.value = value


class InvalidLot(NeverError):
    """An argument that has to be a lot of items is none."""

    def __init__(self, value=None):
        self.value = value


class InvalidNames(NeverError):
    """An argument that has to be different names, or an exchange of names, is none."""

    def __init__(self, value=None):
        self.value = value


class InvalidLayers(NeverError):
    """An argument that has to be a layering of a book is none."""

    def __init__(self, value=None):
        self.value = value


class InvalidName(NeverError):
    """An argument that has to be a name is none."""

    def __init__(self, value=None):
        self.value = value


class InvalidLog(NeverError):
    """An argument that has to be a log or a change is none."""

    def __init__(self, value=None):
        self.value = value


class InvalidText(NeverError):
    """An argument is no text of the kind that is asked for."""

    def __init__(self, value=None):
        self.value = value


class InvalidNumber(NeverError):
    """An argument is no whole number of the kind that is asked for."""

    def __init__(self, value=None):
        self.value = value


class UnknownName(NeverError):
    """A label, a name or a fact is not there."""

    def __init__(self, value=None):
        self.value = value


class TakenName(NeverError):
    """A label, a name or a fact is there already."""

    def __init__(self, value=None):
        self.value = value


class NotPlain(NeverError):
    """A book or a rule that has to be plain has a denied pattern."""

    def __init__(self, value=None):
        self.value = value


class NotLayered(NeverError):
    """A book has no layering; the ring of kinds shows why."""

    def __init__(self, ring=None):
        self.ring = ring


class NotFiring(NeverError):
    """A firing is none of those that can be done."""

    def __init__(self, value=None):
        self.value = value


class TooMany(NeverError):
    """There are more than the caller wants to wait for."""

    def __init__(self, most=None):
        self.most = most


class NotMeeting(NeverError):
    """Two editions conflict and so do not meet."""

    def __init__(self, conflicts=None):
        self.conflicts = conflicts


class Unsound(NeverError):
    """A guard would have matches."""

    def __init__(self, value=None):
        self.value = value


class NothingToUndo(NeverError):
    """There is no change to take back."""


class NothingToRedo(NeverError):
    """There is no change to make again."""
