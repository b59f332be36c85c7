"""Scripts drawn by a number, and their texts and what is said, worked out as the document tells it."""

from neverapart import errors
from neverapart.rules import Book, Rule
from plainly import DRY, variables_in

REFUSALS = [errors.TakenName, errors.UnknownName, errors.NotPlain, errors.NothingToUndo, errors.NothingToRedo, errors.Unsound]


def drawn_command(chance, depth=2, why=True, books=None, views=None):
    """Any command; names that are there and that are not, books that are plain and that are not."""
    draw = chance.draw
    words = ["tell"] * 4 + ["take"] * 2 + ["put"] * 2 + ["drop", "exchange", "exchange", "view", "unview", "undo", "undo", "redo", "redo"]
    words += ["ask", "seen"] + (["why"] if why else []) + (["try"] if depth else [])
    word = draw.choice(words)
    if word in ("tell", "take", "why"):
        return (word, chance.pattern(chance.names))
    if word in ("undo", "redo"):
        return (word,)
    if word in ("drop", "unview", "seen"):
        return (word, draw.choice("fgv"))
    if word in ("put", "exchange"):
        return (word, draw.choice("fg"), draw.choice(books) if books else drawn_book(chance))
    if word == "view":
        return (word, draw.choice("fv"), draw.choice(views) if views else chance.question(2))
    if word == "ask":
        return (word, chance.pattern(["X", "Y", "X"] + chance.names))
    return (word, drawn_script(chance, draw.randint(0, 4), depth - 1, why, books, views))


def drawn_book(chance):
    rules = [chance.rule(label, 2) for label in chance.draw.sample("jkl", chance.draw.randint(0, 2))]
    return Book(rules + ([DRY] if chance.draw.random() < 0.15 else []))


def drawn_script(chance, many, depth=2, why=True, books=None, views=None):
    return [drawn_command(chance, depth, why, books, views) for _ in range(many)]


def by_hand(engine, command):
    """What is said to a command, by the methods of the engine."""
    word, *more = command
    engine_calls = {
        "tell": engine.tell, "take": engine.take_back, "put": engine.put_book, "drop": engine.drop_book, "exchange": engine.exchange,
        "view": engine.put_view, "unview": engine.drop_view, "undo": engine.undo, "redo": engine.redo,
    }
    try:
        if word in engine_calls:
            result = engine_calls[word](*more)
            return ("done",) if word in ("view", "unview", "undo", "redo") else ("came", *result)
        if word == "ask":
            return ("told", sorted(fact for fact in engine.closed() if is_instance(more[0], fact)))
        if word == "why":
            return ("why", engine.why(more[0]))
        if word == "seen":
            return ("seen", engine.seen(more[0]))
    except tuple(REFUSALS) as error:
        return ("refused", type(error).__name__)
    with engine.trial():
        return ("tried", [by_hand(engine, inner) for inner in more[0]])


def is_instance(goal, fact):
    names = {}
    if len(goal) != len(fact) or goal[0] != fact[0]:
        return False
    for term, name in zip(goal[1:], fact[1:]):
        if names.setdefault(term, name if term.isupper() else term) != name:
            return False
    return True


def shown(pattern):
    return pattern[0] + (f"({', '.join(pattern[1:])})" if len(pattern) > 1 else "")


def conditions(told, pairs, denied=()):
    parts = [shown(p) for p in told] + [f"{a} unlike {b}" for a, b in pairs] + [f"not {shown(p)}" for p in denied]
    return (" if " if parts else "") + ", ".join(parts)


def command_lines(command):
    """The lines of the text of a command."""
    word, *more = command
    if word in ("put", "exchange"):
        rules = [f"  {r.label}: {shown(r.head)}{conditions(r.told, r.pairs, r.denied)}" for r in more[1].rules()]
        return [f"{word} {more[0]}", *rules, "end"]
    if word == "try":
        return ["try", *["  " + line for inner in more[0] for line in command_lines(inner)], "end"]
    if word == "view":
        question = more[1]
        return [f"view {more[0]}: ({', '.join(question.columns)}){conditions(question.told, question.pairs)}"]
    return [" ".join([word] + [one if isinstance(one, str) else shown(one) for one in more])]


def paper_height(paper):
    return 0 if paper[0] == "given" else 1 + max([paper_height(one) for one in paper[3]], default=0)


def item_lines(item):
    """The lines of the text of what was said to a command."""
    word, *more = item
    if word == "came":
        parts = [f"{name} {', '.join(map(shown, facts))}" for name, facts in (("came", more[0]), ("went", more[1])) if facts]
        return ["; ".join(parts) if parts else "nothing new"]
    if word == "told":
        return ["told " + (", ".join(map(shown, more[0])) if more[0] else "none")]
    if word == "why":
        paper = more[0]
        return ["why none" if paper is None else f"why {shown(paper[1] if paper[0] == 'given' else paper[2])} ({paper_height(paper)})"]
    if word == "seen":
        return ["seen " + (", ".join(f"({', '.join(answer)})" for answer in more[0]) if more[0] else "none")]
    if word == "tried":
        return ["tried"] + ["  " + line for inner in more[0] for line in item_lines(inner)]
    return [" ".join(item)]


def relabelled(book, letters):
    """An alike book: other labels, another order, and a rule that says less."""
    rules = [Rule(label, r.head, r.told, r.pairs) for label, r in zip(letters, reversed(book.rules()))]
    more = [Rule(letters[len(rules)], r.head, r.told + r.told[:1], r.pairs) for r in book.rules()[:1] if variables_in(r.told)]
    return Book(rules + more)
