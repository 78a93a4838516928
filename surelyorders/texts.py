"""Texts of comparisons: a line for the letters, and then one for each state."""

from surelyorders.bounds import MAX_LETTERS
from surelyorders.comps import LETTERS, comp_error
from surelyorders.errors import BadComp, BadText

# The words for the verdicts -1, 0 and 1.
VERDICT_WORDS = ("less", "same", "more")

# The most digits of a number in a text.
MOST_DIGITS = 9


def comp_text(comp):
    """Return the text of the comparison."""
    letters, rows, verdicts = comp
    lines = [letters_line(letters)]
    for row, verdict in zip(rows, verdicts):
        lines.append(" ".join(["state"] + [str(state) for state in row] + [verdict_word(verdict)]))
    return "\n".join(lines)


def parse_comp(value):
    """Return the comparison whose text the value is."""
    if not isinstance(value, str):
        raise BadText(None)
    first, *others = value.split("\n")
    letters = read_letters(first)
    if letters is None:
        raise BadText(0)
    states = []
    for index, line in enumerate(others, start=1):
        state = read_state(line)
        if state is None:
            raise BadText(index)
        states.append(state)
    if len(states) == 0:
        raise BadText(1)
    comp = (letters, tuple([row for row, _ in states]), tuple([verdict for _, verdict in states]))
    error = comp_error(comp)
    if error is not None:
        raise BadComp(error)
    return comp


def letters_line(letters):
    """Return the line that tells the letters."""
    return "letters " + LETTERS[:letters]


def verdict_word(verdict):
    """Return the word for the verdict."""
    return VERDICT_WORDS[verdict + 1]


def read_letters(line):
    """Return how many letters the line tells, or None if it is no such line."""
    for letters in range(1, MAX_LETTERS + 1):
        if line == letters_line(letters):
            return letters
    return None


def read_state(line):
    """Return the row and the verdict that the line tells, or None if it is no line of a state."""
    head, *numbers = line.split(" ")
    if head != "state" or len(numbers) < 2:
        return None
    word = numbers.pop()
    if word not in VERDICT_WORDS or not all([is_decimal(text, MOST_DIGITS) for text in numbers]):
        return None
    return (tuple([int(text) for text in numbers]), VERDICT_WORDS.index(word) - 1)


def is_decimal(text, most):
    """Tell whether the text is a number of at most so many digits, without leading zeros."""
    # Digits of other scripts are digits for Python, too.
    if not (text.isascii() and text.isdigit()) or len(text) > most:
        return False
    return text == "0" or not text.startswith("0")
