"""Consoles: commands, each a line of text, for a bench."""

from surelyorders.comps import END, LETTERS, is_word
from surelyorders.errors import NoColumn, NoState, OrderError
from surelyorders.texts import comp_text, is_decimal, verdict_word

# The kinds of the values that each command takes: N a number, S two signs, W a word. That sort
# takes one word or more is told apart.
KINDS = {
    "link": "NSN",
    "say": "NN",
    "grow": "N",
    "drop": "N",
    "turn": "",
    "undo": "",
    "redo": "",
    "text": "",
    "tells": "WW",
    "fault": "",
}

# The empty word as it is written in a command.
NO_LETTERS = "-"

# The most digits of a number in a command.
MOST_DIGITS = 40


class Console:
    """A console that works on a bench."""

    def __init__(self, bench):
        self.bench = bench

    def execute(self, line):
        """Do the command and return the answer; the line may be any value."""
        command = read_command(line)
        if command is None:
            return "unknown command"
        name, values = command
        try:
            return self.answer(name, values)
        except (OrderError, NoState, NoColumn) as error:
            return "error " + error.__class__.__name__

    def answer(self, name, values):
        """Return the answer to the command."""
        if name == "text":
            return comp_text(self.bench.comp).replace("\n", " | ")
        if name == "tells":
            return verdict_word(self.bench.tells(*values))
        if name == "sort":
            return shown_words(self.bench.sorted_by(tuple(values)))
        if name == "fault":
            return shown_fault(self.bench.first_fault())
        return f"ok {self.version_behind(name, values)}"

    def version_behind(self, name, values):
        """Do the edit, undo or redo; return the new version."""
        if name == "link":
            return self.bench.link(*values)
        if name == "say":
            return self.bench.say(*values)
        if name == "grow":
            return self.bench.grow(*values)
        if name == "drop":
            return self.bench.drop(*values)
        if name == "turn":
            return self.bench.turn()
        if name == "undo":
            return self.bench.undo()
        return self.bench.redo()


def read_command(line):
    """Return the name and the list of the values of the command, or None if the line is none."""
    if not isinstance(line, str):
        return None
    name, *texts = line.split(" ")
    kinds = "W" * max(1, len(texts)) if name == "sort" else KINDS.get(name)
    if kinds is None or len(kinds) != len(texts):
        return None
    values = [read_value(kind, text) for kind, text in zip(kinds, texts)]
    if None in values:
        return None
    return (name, values)


def read_value(kind, text):
    """Return the value of the kind that the text tells, or None if it tells none."""
    if kind == "N":
        return read_number(text)
    if kind == "S":
        return read_signs(text)
    return read_word(text)


def read_number(text):
    """Return the integer that the text tells, or None."""
    if text == "-0" or not is_decimal(text.removeprefix("-"), MOST_DIGITS):
        return None
    return int(text)


def read_signs(text):
    """Return the text if it consists of two signs, or else None."""
    if len(text) == 2 and all([sign in LETTERS + END for sign in text]):
        return text
    return None


def read_word(text):
    """Return the word that the text tells, or None."""
    if text == NO_LETTERS:
        return ""
    # All letters may stand here: which of them its comparison has is for the bench to tell.
    if text != "" and is_word(text, len(LETTERS)):
        return text
    return None


def shown_words(words):
    """Return the words as they are written in an answer."""
    return " ".join([word if word != "" else NO_LETTERS for word in words])


def shown_fault(fault):
    """Return a fault, a word or a tuple of words or None, as it is written in an answer."""
    if fault is None:
        return "none"
    return shown_words((fault,) if isinstance(fault, str) else fault)
