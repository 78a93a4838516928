"""Words and comparisons: small machines that read two words side by side.

A comparison is a tuple (letters, rows, verdicts): how many letters there are, the row of
each state with the next state for each column, and the verdict of each state.
"""

from surelyorders.bounds import MAX_LENGTH, MAX_LETTERS

LETTERS = "abc"
END = "."


def comp_error(value):
    """Return None for a comparison, or else (state or None, the name of its first wrong part)."""
    if not isinstance(value, tuple) or len(value) != 3:
        return (None, "comp")
    letters, rows, verdicts = value
    if not is_number(letters, 1, MAX_LETTERS):
        return (None, "letters")
    if not isinstance(rows, tuple) or len(rows) == 0:
        return (None, "rows")
    state = first_wrong_row(rows, len(columns(letters)))
    if state is not None:
        return (state, "row")
    if not are_numbers(verdicts, len(rows), -1, 1):
        return (None, "verdicts")
    return None


def columns(letters):
    """Return the columns: the pairs of signs, but not the end beside the end."""
    signs = LETTERS[:letters] + END
    pairs = [first + second for first in signs for second in signs]
    # The end stands last among the signs, so the pair of both ends is the last one.
    return tuple(pairs[:-1])


def tells(comp, one, other):
    """Return -1, 0 or 1: one is less than other, the same, or greater."""
    letters, rows, verdicts = comp
    places = column_places(letters)
    length = max(len(one), len(other))
    state = 0
    for first, second in zip(one.ljust(length, END), other.ljust(length, END)):
        state = rows[state][places[first + second]]
    return verdicts[state]


def column_places(letters):
    """Return a dict that gives for each column where its item stands in a row."""
    return {column: place for place, column in enumerate(columns(letters))}


def is_word(value, letters):
    """Tell whether the value is a word of so many letters that is not too long to hand over."""
    if not isinstance(value, str) or len(value) > MAX_LENGTH:
        return False
    return all([sign in LETTERS[:letters] for sign in value])


def first_wrong_row(rows, width):
    """Return the first state whose item is not a row of states that are there, or None."""
    for state, row in enumerate(rows):
        if not are_numbers(row, width, 0, len(rows) - 1):
            return state
    return None


def are_numbers(value, many, low, high):
    """Tell whether the value is a tuple of just so many integers from low to high."""
    if not isinstance(value, tuple) or len(value) != many:
        return False
    return all([is_number(item, low, high) for item in value])


def is_number(value, low, high):
    """Tell whether the value is an integer from low to high."""
    # Python counts True and False among its ints; the document does not.
    if not isinstance(value, int) or isinstance(value, bool):
        return False
    return low <= value <= high
