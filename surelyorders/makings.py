"""Comparisons that are made: by the ranks of letters, by length, and of other comparisons."""

from surelyorders.comps import END, LETTERS, column_places, columns
from surelyorders.errors import Unlike

# The states of what by_ranks makes.
SAME = 0
LESS = 1
MORE = 2


def by_ranks(letters, ranks):
    """Return the comparison by the ranks of the first letters of unlike ranks, then by length."""
    names = columns(letters)
    first_row = tuple([ranked_state(ranks, column) for column in names])
    return (letters, (first_row, (LESS,) * len(names), (MORE,) * len(names)), (0, -1, 1))


def ranked_state(ranks, column):
    """Return the state that the column leads to while only same ranks have been read."""
    if column[0] == END:
        return LESS
    if column[1] == END:
        return MORE
    first, second = ranks[LETTERS.index(column[0])], ranks[LETTERS.index(column[1])]
    if first == second:
        return SAME
    return LESS if first < second else MORE


def by_length(letters):
    """Return the comparison of which the shorter word is less, words of one length the same."""
    return by_ranks(letters, (0,) * letters)


def turned(comp):
    """Return the comparison with the contrary verdicts."""
    letters, rows, verdicts = comp
    return (letters, rows, tuple([-verdict for verdict in verdicts]))


def then(one, other):
    """Return the comparison that tells what one tells, and where that is 0 what other tells."""
    if one[0] != other[0]:
        raise Unlike()
    return then_within(one, other, len(one[1]) * len(other[1]))


def then_within(one, other, most):
    """Return the comparison of then, or None if it has more states than most."""
    pairs = [(0, 0)]
    numbers = {(0, 0): 0}
    rows = []
    while len(rows) < len(pairs):
        if len(pairs) > most:
            return None
        first, second = pairs[len(rows)]
        row = []
        for pair in zip(one[1][first], other[1][second]):
            if pair not in numbers:
                numbers[pair] = len(pairs)
                pairs.append(pair)
            row.append(numbers[pair])
        rows.append(tuple(row))
    verdicts = [one[2][first] or other[2][second] for first, second in pairs]
    return (one[0], tuple(rows), tuple(verdicts))


def folded(comp, images):
    """Return the comparison that tells what comp tells of the words with images for letters."""
    letters, rows, verdicts = comp
    signs = {END: END}
    for letter, image in zip(LETTERS, images):
        signs[letter] = image
    places = column_places(letters)
    taken = [places[signs[column[0]] + signs[column[1]]] for column in columns(len(images))]
    return (len(images), tuple([tuple([row[place] for place in taken]) for row in rows]), verdicts)
