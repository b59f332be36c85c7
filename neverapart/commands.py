"""Commands, of which scripts are made, and their texts line by line."""

from neverapart.errors import InvalidScript, InvalidText
from neverapart.forms import is_fact, is_name, is_pattern
from neverapart.rules import Book, Question
from neverapart.texts import lines_of, pattern_in, pattern_text, question_in, question_text, read_book, rule_text

# The words of commands, by what stands behind them.
WITH_FACT = ("tell", "take", "why")
WITH_BOOK = ("put", "exchange")
WITH_NAME = ("drop", "unview", "seen")
ALONE = ("undo", "redo")


def is_script(value):
    """Whether any object is a script."""
    return isinstance(value, list) and all([_is_command(part) for part in value])


def need_script(value):
    """Lets scripts pass."""
    if not is_script(value):
        raise InvalidScript(value)


def asks_why(script):
    """Whether a script, or one within it, has a `why`."""
    return any([part[0] == "why" or part[0] == "try" and asks_why(part[1]) for part in script])


def lines_of_script(script):
    """The lines of the text of a script."""
    return [line for command in script for line in _lines_of(command)]


def script_in(lines):
    """The only list that could have these lines as a script; who asks makes sure that it is one and has them."""
    script = []
    at = 0
    while at < len(lines):
        line = lines[at]
        at += 1
        if _is_opening(line):
            inner = _inner_lines(lines, at)
            script.append(_opened_command_in(line, inner))
            # Behind the lines within stands `end`.
            at = at + len(inner) + 1
        else:
            script.append(_command_in(line))
    return script


def inward(lines):
    """Lines two blanks further in."""
    return ["  " + line for line in lines]


def _is_command(value):
    if not isinstance(value, tuple) or len(value) == 0:
        return False
    word, more = value[0], value[1:]
    if word in ALONE:
        return len(more) == 0
    if len(more) == 2 and is_name(more[0]):
        return word in WITH_BOOK and isinstance(more[1], Book) or word == "view" and isinstance(more[1], Question)
    if len(more) != 1:
        return False
    if word in WITH_FACT:
        return is_fact(more[0])
    if word in WITH_NAME:
        return is_name(more[0])
    return word == "ask" and is_pattern(more[0]) or word == "try" and is_script(more[0])


def _lines_of(command):
    word = command[0]
    if word in ALONE:
        return [word]
    thing = command[1]
    if word == "try":
        return [word] + inward(lines_of_script(thing)) + ["end"]
    if word in WITH_BOOK:
        return [word + " " + thing] + inward([rule_text(rule) for rule in command[2].rules()]) + ["end"]
    if word == "view":
        return [word + " " + thing + ": " + question_text(command[2])]
    return [word + " " + (thing if word in WITH_NAME else pattern_text(thing))]


def _is_opening(line):
    """Whether further lines belong to the one of a command."""
    word, _, _ = line.partition(" ")
    return word == "try" or word in WITH_BOOK


def _inner_lines(lines, at):
    """The lines from a place on that are two blanks further in, without these."""
    found = []
    while at < len(lines) and lines[at].startswith("  "):
        found.append(lines[at][2:])
        at += 1
    return found


def _opened_command_in(line, inner):
    if line == "try":
        return "try", script_in(inner)
    word, _, name = line.partition(" ")
    try:
        return word, name, read_book("\n".join(inner))
    except InvalidText:
        return None


def _command_in(line):
    word, blank, rest = line.partition(" ")
    if word == "view":
        name, _, question = rest.partition(": ")
        return word, name, question_in(question)
    if word in WITH_NAME:
        return word, rest
    return (word, pattern_in(rest)) if blank else (word,)
