"""What several tests use: words, comparisons, and what the document says of them, done plainly."""

import copy
import itertools
import unittest

# Written out by hand in the document's order.
COLUMNS = {
    1: ("aa", "a.", ".a"),
    2: ("aa", "ab", "a.", "ba", "bb", "b.", ".a", ".b"),
    3: ("aa", "ab", "ac", "a.", "ba", "bb", "bc", "b.", "ca", "cb", "cc", "c.", ".a", ".b", ".c"),
}

PLAIN = (1, ((0, 1, 2), (1, 1, 1), (2, 2, 2)), (0, 1, -1))
NEVER = (1, ((0, 0, 0),), (0,))

# Comparisons of one letter whose first broken rule is the first, the second, the third one. The
# last one tells words the same whose lengths differ by 1 at most, but no others.
NO_SELF = (1, ((0, 0, 0),), (1,))
NO_TURN = (1, ((0, 1, 1), (1, 1, 1)), (0, 1))
NO_CHAIN = (
    1, ((0, 1, 3), (1, 2, 1), (2, 2, 2), (3, 3, 4), (4, 4, 4)), (0, 0, 1, 0, -1),
)


class ExactCase(unittest.TestCase):
    def assert_exactly(self, result, expected):
        """Equal, and of the same kinds throughout: no True for 1 and no list for a tuple."""
        self.assertEqual(repr(result), repr(expected))
        self.assert_same_kinds(result, expected)

    def assert_same_kinds(self, result, expected):
        self.assertIs(type(result), type(expected))
        if isinstance(expected, tuple):
            self.assertEqual(len(result), len(expected))
            for part, other in zip(result, expected):
                self.assert_same_kinds(part, other)

    def checked(self, function, *arguments):
        """The result; it is equal for equal arguments, and these stay as they were."""
        kept = copy.deepcopy(arguments)
        result = function(*arguments)
        self.assertEqual(repr(arguments), repr(kept))
        self.assert_exactly(function(*kept), result)
        return result


def outcome(function, *arguments, **named):
    """What a call comes to: ("returned", its result), or the error's class and its fields."""
    try:
        return ("returned", function(*arguments, **named))
    except Exception as error:
        return (type(error).__name__, vars(error))


def told(comp, one, other):
    """What the document says that a comparison tells, place by place."""
    letters, rows, verdicts = comp
    state, place = 0, 0
    while place < len(one) or place < len(other):
        first = one[place] if place < len(one) else "."
        second = other[place] if place < len(other) else "."
        state = rows[state][COLUMNS[letters].index(first + second)]
        place += 1
    return verdicts[state]


def told_of_all(comp, words_read):
    """A dict of what comp tells of each two of the words."""
    return {(one, other): told(comp, one, other) for one in words_read for other in words_read}


def words(letters, longest):
    """All words of at most so many letters, the first ones first."""
    signs = "abc"[:letters]
    return [
        "".join(word)
        for length in range(longest + 1)
        for word in itertools.product(signs, repeat=length)
    ]


def random_word(chance, letters, longest):
    return "".join([chance.choice("abc"[:letters]) for _ in range(chance.randrange(longest + 1))])


def first_of(found):
    """The first of some pairs or triples of words, or None."""
    return min(found, key=lambda item: (max([len(word) for word in item]), item), default=None)


def random_comp(chance, letters, states, verdicts=(-1, 0, 1)):
    width = len(COLUMNS[letters])
    rows = [tuple([chance.randrange(states) for _ in range(width)]) for _ in range(states)]
    return (letters, tuple(rows), tuple([chance.choice(verdicts) for _ in range(states)]))


def ranked(letters, ranks):
    """by_ranks, from its words in the document."""
    first_row = []
    for column in COLUMNS[letters]:
        one, other = [None if sign == "." else ranks["abc".index(sign)] for sign in column]
        if one is None:
            first_row.append(1)
        elif other is None:
            first_row.append(2)
        else:
            first_row.append(0 if one == other else 1 if one < other else 2)
    width = len(first_row)
    return (letters, (tuple(first_row), (1,) * width, (2,) * width), (0, -1, 1))


def behind(one, other):
    """A comparison that tells what one tells, and where that is 0 what other tells."""
    many = len(other[1])
    rows = [
        tuple([first * many + second for first, second in zip(row, other_row)])
        for row in one[1] for other_row in other[1]
    ]
    verdicts = [verdict or other_verdict for verdict in one[2] for other_verdict in other[2]]
    return (one[0], tuple(rows), tuple(verdicts))


def pairs_come_to(one, other):
    """The pairs of states in the order in which columns come to them, and their rows."""
    pairs, rows = [(0, 0)], []
    for number in itertools.count():
        if number == len(pairs):
            return pairs, tuple(rows)
        first, second = pairs[number]
        row = []
        for place in range(len(COLUMNS[one[0]])):
            pair = (one[1][first][place], other[1][second][place])
            if pair not in pairs:
                pairs.append(pair)
            row.append(pairs.index(pair))
        rows.append(tuple(row))


def random_order(chance, letters, depth=2):
    """An order: by ranks, turned or not, perhaps with others behind it."""
    letters_, rows, verdicts = ranked(letters, [chance.randrange(3) for _ in range(letters)])
    way = chance.choice((1, -1))
    order = (letters_, rows, tuple([way * verdict for verdict in verdicts]))
    if depth == 0 or chance.random() < 0.5:
        return order
    return behind(order, random_order(chance, letters, depth - 1))


def bent(chance, comp, times):
    """The comparison with some items and verdicts changed."""
    letters, rows, verdicts = comp
    rows, verdicts = [list(row) for row in rows], list(verdicts)
    for _ in range(times):
        if chance.random() < 0.6:
            row = chance.choice(rows)
            row[chance.randrange(len(row))] = chance.randrange(len(rows))
        else:
            verdicts[chance.randrange(len(verdicts))] = chance.choice((-1, 0, 1))
    return (letters, tuple([tuple(row) for row in rows]), tuple(verdicts))


def some_comp(chance, letters, most):
    """A comparison of at most so many states: any one, or an order, perhaps a bit changed."""
    while True:
        if chance.random() < 0.4:
            verdicts = (-1, 1) + (0,) * chance.choice((1, 1, 4, 10))
            return random_comp(chance, letters, chance.randrange(1, most + 1), verdicts)
        comp = bent(chance, random_order(chance, letters), chance.choice((0, 1, 1, 2)))
        if len(comp[1]) <= most:
            return comp


def with_dead_states(comp, chance, many):
    """The comparison with some states that nothing leads to, and any verdicts and items."""
    letters, rows, verdicts = comp
    width, states = len(rows[0]), len(rows) + many
    more = [tuple([chance.randrange(states) for _ in range(width)]) for _ in range(many)]
    return (letters, rows + tuple(more), verdicts + tuple([chance.choice((-1, 1)) for _ in more]))
