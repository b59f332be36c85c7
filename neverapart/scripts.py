"""Scripts that are played on engines, what is said then, their texts, and where they come to the same end."""

from itertools import combinations

from neverapart.books import alike
from neverapart.changes import changed_or_none, holding_of, is_change
from neverapart.commands import inward, is_script, lines_of_script, need_script, script_in
from neverapart.errors import InvalidText, NeverError
from neverapart.goals import instances_in
from neverapart.live import make_change
from neverapart.texts import lines_of, pattern_text


def play(engine, script):
    """Does the commands of a script on an engine, and returns what is said to each."""
    need_script(script)
    return _played(engine, script)


def script_text(script):
    """The text of a script."""
    need_script(script)
    return "\n".join(lines_of_script(script))


def read_script(text):
    """The script that has a text."""
    script = script_in(lines_of(text)) if isinstance(text, str) else None
    if not is_script(script) or script_text(script) != text:
        raise InvalidText(text)
    return script


def said_text(said):
    """The text of what was said to a script."""
    return "\n".join(_said_lines(said))


def same_end(one, other):
    """Whether two scripts leave the same behind on each store."""
    return parting_start(one, other) is None


def parting_start(one, other):
    """Any store on which two scripts leave unlike things behind, and the same with any fact less; None without one."""
    need_script(one)
    need_script(other)
    kinds = BookKinds()
    # The first of the stores that parts them, those with fewer facts ahead, is a least one.
    for store in _starts(one + other):
        if not kinds.are_same(_end(one, store), _end(other, store)):
            return store
    return None


def trimmed(script):
    """A script without those commands, from the last to the first one, that change nothing of its ends."""
    need_script(script)
    starts = _starts(script)
    goals = [_end(script, store) for store in starts]
    kinds = BookKinds()
    kept = list(script)
    many = len(kept)
    for place in reversed(range(many)):
        less = kept[:place] + kept[place + 1:]
        if all([kinds.are_same(_end(less, store), goal) for store, goal in zip(starts, goals)]):
            kept = less
    return kept


class BookKinds:
    """Which books are alike, asked for each two unlike ones once."""

    def __init__(self):
        self._judged = []

    def are_same(self, one, other):
        """Whether two holdings have the same facts, and under the same names books that are alike and equal views."""
        if one.held != other.held or one.watched != other.watched:
            return False
        if sorted(one.library) != sorted(other.library):
            return False
        return all([self._are_alike(one.library[name], other.library[name]) for name in one.library])

    def _are_alike(self, one, other):
        if one == other:
            return True
        for this, that, answer in self._judged:
            if this == one and that == other:
                return answer
        answer = alike(one, other)
        self._judged.append((one, other, answer))
        return answer


def _played(engine, script):
    return [_said(engine, command) for command in script]


def _said(engine, command):
    try:
        return _done(engine, command)
    except NeverError as error:
        return "refused", type(error).__name__


def _done(engine, command):
    """Does a command, and returns what is said if it is not refused."""
    if is_change(command):
        made = make_change(engine, command)
        return ("done",) if made is None else ("came", made[0], made[1])
    word = command[0]
    if word == "undo":
        engine.undo()
        return ("done",)
    if word == "redo":
        engine.redo()
        return ("done",)
    thing = command[1]
    if word == "ask":
        return "told", instances_in(thing, engine.closed())
    if word == "why":
        return "why", engine.why(thing)
    if word == "seen":
        return "seen", engine.seen(thing)
    with engine.trial():
        return "tried", _played(engine, thing)


def _said_lines(said):
    return [line for item in said for line in _lines_of_item(item)]


def _lines_of_item(item):
    word = item[0]
    if word == "done":
        return [word]
    if word == "came":
        return [_came_text(item[1], item[2])]
    if word == "tried":
        return [word] + inward(_said_lines(item[1]))
    return [word + " " + _thing_text(word, item[1])]


def _came_text(came, went):
    parts = ["came " + _facts_text(came)] if came else []
    parts = parts + (["went " + _facts_text(went)] if went else [])
    return "; ".join(parts) or "nothing new"


def _thing_text(word, thing):
    if word == "refused":
        return thing
    if not thing:
        return "none"
    if word == "told":
        return _facts_text(thing)
    if word == "seen":
        return ", ".join(["(" + ", ".join(answer) + ")" for answer in thing])
    fact = thing[1] if thing[0] == "given" else thing[2]
    return pattern_text(fact) + " (" + str(_height(thing)) + ")"


def _facts_text(facts):
    return ", ".join([pattern_text(fact) for fact in facts])


def _height(paper):
    """The height of a paper: how many levels of it have a line by a rule."""
    height = 0
    level = [paper]
    while True:
        papers = [line for line in level if line[0] == "by"]
        if not papers:
            return height
        height += 1
        parts = [part for line in papers for part in line[3]]
        # Equal papers are looked at once only, as few objects may stand for very many lines.
        level = [one for place, one in enumerate(parts) if one not in parts[:place]]


def _starts(script):
    """All stores of facts that commands tell and take, those with fewer facts ahead."""
    facts = sorted({command[1] for command in script if command[0] in ("tell", "take")})
    return [store for many in range(len(facts) + 1) for store in _choices(facts, many)]


def _choices(facts, many):
    return [list(row) for row in combinations(facts, many)]


def _end(script, store):
    """What an engine of a store holds behind a script; what is tried out changes nothing."""
    now = holding_of(store, [])
    done = []
    undone = []
    for command in script:
        if command == ("undo",) and done:
            undone.append(now)
            now = done.pop()
        elif command == ("redo",) and undone:
            done.append(now)
            now = undone.pop()
        elif is_change(command):
            then = changed_or_none(now, command)
            if then is not None:
                done.append(now)
                undone = []
                now = then
    return now
