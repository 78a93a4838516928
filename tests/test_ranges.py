"""Point [8]: least words and how many words there are, surelyorders/ranges.py."""

import inspect
import itertools
import random
import unittest

from surelyorders import ranges
from surelyorders.comps import tells
from surelyorders.faults import is_order
from surelyorders.makings import by_length, by_ranks, folded, then, turned
from surelyorders.ranges import (
    below_count, below_first, between, between_count, greatest, heads, least, like_count,
)
from tests.plain import (
    COLUMNS, NEVER, PLAIN, ExactCase, random_comp, random_order, random_word, some_comp, told,
    told_of_all, with_dead_states, words,
)

# All words of so many letters are searched, and so many states are enough for these to tell
# whether fitting words are without end.
SEARCHED = {1: 60, 2: 10, 3: 7}
STATES = {1: 7, 2: 4, 3: 3}


def heads_by_length(comp, longest):
    """How many heads there are of each length: the sets of what is beside a word, letter by letter.

    Beside a word stand the words that are no longer: the same one ("="), lesser and greater ones
    of its length ("<", ">") and shorter ones ("."), each with a state.
    """
    letters, rows, verdicts = comp
    crowds = {frozenset([("=", 0)]): 1}
    found = []
    for _ in range(longest + 1):
        found.append(sum([
            count for crowd, count in crowds.items()
            if not [state for kind, state in crowd if kind in "<." and verdicts[state] == 0]
        ]))
        longer = {}
        for crowd, count in crowds.items():
            for letter in "abc"[:letters]:
                behind = frozenset(beside(comp, crowd, letter))
                longer[behind] = longer.get(behind, 0) + count
        crowds = longer
    return found


def beside(comp, crowd, letter):
    letters, rows, _ = comp
    for kind, state in crowd:
        yield ".", rows[state][COLUMNS[letters].index("." + letter)]
        if kind == ".":
            continue
        for other in "abc"[:letters]:
            now = kind
            if kind == "=" and other != letter:
                now = "<" if other < letter else ">"
            yield now, rows[state][COLUMNS[letters].index(other + letter)]


def sink_behind(comp, verdict):
    """The comparison with one state more, to which all columns with an end lead."""
    letters, rows, verdicts = comp
    sink = len(rows)
    changed = [
        tuple([sink if "." in column else item for item, column in zip(row, COLUMNS[letters])])
        for row in rows
    ]
    changed.append((sink,) * len(COLUMNS[letters]))
    return (letters, tuple(changed), verdicts + (verdict,))


class ExampleTest(ExactCase):
    def test_example_of_section_4(self):
        plain, long = by_ranks(2, (0, 1)), turned(by_length(2))
        results = [
            below_count(plain, "aa"), below_count(plain, "b"), below_first(plain, "ab"),
            like_count(long, "ab"), between(plain, "a", "b"), between_count(plain, "a", "aaa"),
            between_count(plain, "a", "b"),
        ]
        self.assertEqual(repr(results), "[2, None, '', 4, 'aa', 1, None]")
        results = [
            least(plain), greatest(plain), least(long), greatest(long), heads(plain), heads(long),
            heads((1, ((0, 0, 0),), (0,))),
        ]
        self.assertEqual(repr(results), "['', None, None, '', None, None, 1]")


class InterfaceTest(ExactCase):
    def test_names_and_arguments(self):
        for function, names in (
            (below_first, ["comp", "word"]), (below_count, ["comp", "word"]),
            (like_count, ["comp", "word"]), (between, ["comp", "low", "high"]),
            (between_count, ["comp", "low", "high"]), (least, ["comp"]), (greatest, ["comp"]),
            (heads, ["comp"]),
        ):
            self.assertEqual(list(inspect.signature(function).parameters), names)
            self.assertEqual(function.__module__, "surelyorders.ranges")
            self.assertTrue(inspect.isfunction(getattr(ranges, function.__name__)))

    def test_arguments_by_name(self):
        self.assert_exactly(below_first(word="a", comp=PLAIN), "")
        self.assert_exactly(below_count(word="aa", comp=PLAIN), 2)
        self.assert_exactly(like_count(word="aa", comp=PLAIN), 1)
        self.assert_exactly(between(high="aaa", low="a", comp=PLAIN), "aa")
        self.assert_exactly(between_count(high="aaaa", low="a", comp=PLAIN), 2)
        self.assert_exactly(least(comp=PLAIN), "")
        self.assert_exactly(greatest(comp=PLAIN), None)
        self.assert_exactly(heads(comp=NEVER), 1)


class FitsTest(ExactCase):
    """below_first, below_count, like_count, between and between_count."""

    def assert_fits(self, fits, letters, given, states, first, many):
        """First and many are as a plain search tells; NotImplemented stands for what is not asked."""
        found = [word for word in words(letters, SEARCHED[letters]) if fits(word)]
        # States repeat in longer words: where none of these fits, no longer one does.
        repeated = given + states
        whole = repeated + states - 1 <= SEARCHED[letters]
        if first is not NotImplemented and (found or whole):
            self.assert_exactly(first, found[0] if found else None)
        if whole:
            endless = bool(found) and len(found[-1]) >= repeated
            self.assert_exactly(many, None if endless else len(found))
            return "endless" if endless else "some" if found else "none"
        return "not known"

    def assert_all(self, comp, word, low, high):
        letters, states = comp[0], len(comp[1])
        first = self.checked(below_first, comp, word)
        many = self.checked(below_count, comp, word)
        kinds = [self.assert_fits(
            lambda found: told(comp, found, word) == -1, letters, len(word), states, first, many
        )]
        many = self.checked(like_count, comp, word)
        kinds.append(self.assert_fits(
            lambda found: told(comp, found, word) == 0, letters, len(word), states,
            NotImplemented, many
        ))
        first = self.checked(between, comp, low, high)
        many = self.checked(between_count, comp, low, high)
        kinds.append(self.assert_fits(
            lambda found: told(comp, low, found) == -1 and told(comp, found, high) == -1,
            letters, max(len(low), len(high)), states * states, first, many
        ))
        return kinds

    def test_one_letter(self):
        chance = random.Random(90)
        kinds = set()
        for _ in range(250):
            comp = some_comp(chance, 1, STATES[1])
            read = [random_word(chance, 1, 5) for _ in range(3)]
            kinds.update(enumerate(self.assert_all(comp, *read)))
        for index in range(3):
            for kind in ("endless", "some", "none"):
                self.assertIn((index, kind), kinds)

    def test_more_letters(self):
        chance = random.Random(91)
        for letters in (2, 2, 2, 3) * 12:
            comp = some_comp(chance, letters, STATES[letters])
            self.assert_all(comp, *[random_word(chance, letters, 3) for _ in range(3)])

    def test_empty_words(self):
        chance = random.Random(92)
        for letters in (1, 1, 1, 2, 3) * 6:
            self.assert_all(some_comp(chance, letters, STATES[letters]), "", "", "")

    def test_one_state(self):
        for letters in (1, 2, 3):
            for verdict in (-1, 0, 1):
                comp = (letters, ((0,) * len(COLUMNS[letters]),), (verdict,))
                for word in ("", "a", "aaa"):
                    below = verdict == -1
                    self.assert_exactly(below_first(comp, word), "" if below else None)
                    self.assert_exactly(below_count(comp, word), None if below else 0)
                    self.assert_exactly(like_count(comp, word), None if verdict == 0 else 0)
                    self.assert_exactly(between(comp, word, "a"), "" if below else None)
                    self.assert_exactly(between_count(comp, "a", word), None if below else 0)

    def test_counts_of_orders(self):
        length = by_length(3)
        for many in (0, 1, 2, 7, 40):
            word = "c" * many
            self.assert_exactly(below_count(length, word), (3 ** many - 1) // 2)
            self.assert_exactly(like_count(length, word), 3 ** many)
            self.assert_exactly(below_count(turned(length), word), None)
            self.assert_exactly(like_count(turned(length), word), 3 ** many)
            self.assert_exactly(between_count(length, "b", word), max(0, (3 ** many - 9) // 2))
        # Of all words of four letters those with "b" or "c" where "abca" has one.
        self.assert_exactly(like_count(by_ranks(3, (0, 1, 1)), "abca"), 4)
        ranked = then(by_length(2), by_ranks(2, (0, 1)))
        for place, word in enumerate(words(2, 6)):
            self.assert_exactly(below_count(ranked, word), place)
            self.assert_exactly(like_count(ranked, word), 1)
            self.assert_exactly(below_first(ranked, word), "" if word else None)
            self.assert_exactly(below_count(turned(ranked), word), None)
        listed = words(2, 4)
        for low, high in itertools.product(range(len(listed)), repeat=2):
            many = max(0, high - low - 1)
            found = between(ranked, listed[low], listed[high])
            self.assert_exactly(found, listed[low + 1] if many else None)
            self.assert_exactly(between_count(ranked, listed[low], listed[high]), many)

    def test_the_order_of_the_words_of_a_pair(self):
        # Told -1: of "a" and "", and of "a" and "aa"; it is no order.
        comp = (1, ((1, 2, 3), (3, 3, 2), (3, 3, 3), (3, 3, 3)), (1, 1, -1, 1))
        self.assert_exactly(below_first(comp, ""), "a")
        self.assert_exactly(below_first(comp, "a"), None)
        self.assert_exactly(below_first(comp, "aa"), "a")
        self.assert_exactly(between(comp, "a", "a"), None)
        comp = (1, ((1, 2, 2), (3, 3, 2), (3, 3, 3), (3, 3, 3)), (1, 1, -1, 1))
        # Told -1 besides: of "" and "a".
        self.assert_exactly(between(comp, "", "aa"), "a")
        self.assert_exactly(between(comp, "a", "a"), "")
        self.assert_exactly(between_count(comp, "a", "a"), 1)
        self.assert_exactly(between_count(comp, "", "aa"), 1)
        self.assert_exactly(between_count(comp, "aa", ""), 0)

    def test_word_itself_below_and_like_itself(self):
        comp = (1, ((1, 1, 1), (1, 1, 1)), (1, -1))
        self.assert_exactly(below_first(comp, ""), "a")
        self.assert_exactly(below_first(comp, "a"), "")
        self.assert_exactly(below_count(comp, ""), None)
        comp = (2, ((0, 1, 1, 1, 0, 1, 1, 1), (1,) * 8), (0, 1))
        self.assert_exactly(like_count(comp, "abba"), 1)

    def test_endless_only_behind_the_given_word(self):
        # Just longer words are told -1, each other one 1.
        comp = (1, ((0, 1, 0), (0, 1, 0)), (1, -1))
        self.assert_exactly(below_first(comp, "aaa"), "aaaa")
        self.assert_exactly(below_count(comp, "aaa"), None)
        # Just words that are one letter longer.
        comp = (1, ((0, 1, 0), (0, 2, 0), (0, 2, 0)), (1, -1, 1))
        self.assert_exactly(below_first(comp, "aaa"), "aaaa")
        self.assert_exactly(below_count(comp, "aaa"), 1)
        # A circle of states that does not lead to -1, and one that words do not come to.
        comp = (1, ((1, 2, 1), (1, 2, 1), (2, 2, 2), (3, 3, 3)), (1, -1, 1, -1))
        self.assert_exactly(below_count(comp, "aa"), 3)
        self.assert_exactly(below_count(comp, ""), 0)

    def test_the_first_word_is_short_ahead_of_least(self):
        # "b" and "aa" are below "c"; "ab" and "ba" are below "cc", "aa" is not.
        comp = (3, ((4, 4, 1, 4, 4, 4, 2, 4, 4, 4, 4, 4, 4, 4, 4),
                    (4, 4, 4, 3, 4, 4, 3, 4, 4, 4, 4, 4, 4, 4, 4),
                    (4, 4, 3, 4, 4, 4, 4, 4, 4, 4, 4, 4, 4, 4, 4),
                    (4,) * 15, (4,) * 15), (1, 1, -1, -1, 1))
        self.assert_exactly(below_first(comp, "c"), "b")
        self.assert_exactly(below_first(comp, "cc"), "ab")
        self.assert_exactly(below_count(comp, "c"), 2)
        self.assert_exactly(below_count(comp, "cc"), 2)

    def test_states_that_no_words_come_to(self):
        chance = random.Random(93)
        for letters in (1, 2, 2, 3):
            order = random_order(chance, letters, 0)
            wide = with_dead_states(order, chance, 5)
            self.assertEqual(len(wide[1]), 8)
            low, high = random_word(chance, letters, 4), random_word(chance, letters, 4)
            for function in (below_first, below_count, like_count):
                self.assert_exactly(function(wide, high), function(order, high))
            for function in (between, between_count):
                self.assert_exactly(function(wide, low, high), function(order, low, high))

    def test_eight_states(self):
        chance = random.Random(94)
        for letters in (1, 2, 3) * 4:
            comp = random_comp(chance, letters, 8)
            read = words(letters, {1: 20, 2: 8, 3: 5}[letters])
            word, low, high = [random_word(chance, letters, 3) for _ in range(3)]
            found = [other for other in read if told(comp, other, word) == -1]
            if found:
                self.assert_exactly(below_first(comp, word), found[0])
            found = [other for other in read
                     if told(comp, low, other) == -1 and told(comp, other, high) == -1]
            if found:
                self.assert_exactly(between(comp, low, high), found[0])

    def test_finite_counts_of_eight_states(self):
        chance = random.Random(95)
        for letters, longest in ((1, 12), (2, 6), (3, 4)) * 4:
            comp = sink_behind(random_comp(chance, letters, 7), 1)
            read = [random_word(chance, letters, longest) for _ in range(2)]
            lists = words(letters, longest)
            many = [other for other in lists if told(comp, other, read[0]) == -1]
            self.assert_exactly(self.checked(below_count, comp, read[0]), len(many))
            many = [other for other in lists
                    if told(comp, read[0], other) == -1 and told(comp, other, read[1]) == -1]
            self.assert_exactly(self.checked(between_count, comp, *read), len(many))
            many = [other for other in lists if told(comp, other, read[1]) == 0]
            self.assert_exactly(self.checked(like_count, comp, read[1]), len(many))

    def test_long_words(self):
        chance = random.Random(96)
        for many in (1000, 20000):
            one = "".join([chance.choice("ab") for _ in range(many)])
            other = one[:-1] + ("a" if one[-1] == "b" else "b")
            low, high = sorted((one, other))
            self.assertTrue(below_count(by_length(2), one) == 2 ** many - 1)
            self.assertTrue(like_count(by_length(2), one) == 2 ** many)
            ranked = then(by_length(2), by_ranks(2, (0, 1)))
            value = int("1" + one.replace("a", "0").replace("b", "1"), 2) - 1
            self.assertTrue(below_count(ranked, one) == value)
            self.assert_exactly(between_count(ranked, low, high), 0)
            self.assert_exactly(between(ranked, low + "a", high + "b"), low + "b")
            self.assert_exactly(between_count(ranked, low + "a", high + "b"), 2)
            self.assert_exactly(between(by_ranks(2, (0, 1)), low, high), low + "a")
            self.assert_exactly(below_first(turned(by_length(2)), one), "a" * (many + 1))
            comp = random_comp(chance, 2, 8)
            found = below_first(comp, one)
            self.assertTrue(found is None or tells(comp, found, one) == -1)
            found = between(comp, low, high)
            self.assertTrue(found is None or tells(comp, low, found) == tells(comp, found, high) == -1)


class LeastTest(ExactCase):
    """least and greatest."""

    def plainly(self, comp, verdict, longest):
        for word in words(comp[0], longest):
            # Behind the word, longer ones come to nothing that those with few letters more do not.
            others = words(comp[0], len(word) + len(comp[1]) - 1)
            if verdict not in [told(comp, other, word) for other in others]:
                return word
        return None

    def assert_extremes(self, comp, longest):
        for function, verdict in ((least, -1), (greatest, 1)):
            result = self.checked(function, comp)
            plain = self.plainly(comp, verdict, longest)
            if result is not None and len(result) > longest:
                self.assertIsNone(plain)
            else:
                self.assert_exactly(result, plain)

    def test_against_a_plain_search(self):
        chance = random.Random(97)
        for letters in (1, 1, 1, 2, 2, 3) * 20:
            comp = some_comp(chance, letters, {1: 8, 2: 5, 3: 3}[letters])
            self.assert_extremes(comp, {1: 12, 2: 3, 3: 2}[letters])

    def test_one_state(self):
        for letters in (1, 2, 3):
            row = (0,) * len(COLUMNS[letters])
            for verdict, expected in ((-1, [None, ""]), (0, ["", ""]), (1, ["", None])):
                comp = (letters, (row,), (verdict,))
                self.assert_exactly(tuple([least(comp), greatest(comp)]), tuple(expected))

    def test_orders(self):
        for letters in (1, 2, 3):
            for ranks in itertools.product((0, 1, 2), repeat=letters):
                comp = by_ranks(letters, ranks)
                self.assert_exactly(least(comp), "")
                self.assert_exactly(greatest(comp), None)
                self.assert_exactly(least(turned(comp)), None)
                self.assert_exactly(greatest(turned(comp)), "")

    def test_no_word_is_least_although_none_is_below_itself(self):
        comp = turned(by_length(1))
        self.assert_exactly(least(comp), None)
        self.assert_exactly(greatest(comp), "")

    def test_a_word_below_itself_is_not_least(self):
        # Of each word and itself -1 is told, of all others 0.
        comp = (2, ((0, 1, 1, 1, 0, 1, 1, 1), (1,) * 8), (-1, 0))
        self.assert_exactly(least(comp), None)
        self.assert_exactly(greatest(comp), "")
        # Of the empty word and itself alone 1 is told.
        comp = (1, ((1, 1, 1), (1, 1, 1)), (1, 0))
        self.assert_exactly(least(comp), "")
        self.assert_exactly(greatest(comp), "a")

    def test_only_much_longer_words_are_below(self):
        # Below a word are all that begin with a letter as it does; below "" those of 7 letters.
        rows = [(7, 1, 7)] + [(7, min(state + 1, 7), 7) for state in range(1, 8)]
        comp = (1, tuple(rows), (0,) * 7 + (-1,))
        self.assert_exactly(least(comp), None)
        # Below a word are all that are at least seven letters longer.
        comp = (1, tuple([(0, row[1], 0) for row in rows]), (0,) * 7 + (-1,))
        self.assert_exactly(least(comp), None)
        self.assert_exactly(greatest(comp), "")

    def test_long_least_words(self):
        # Told -1 but where the longer word's length is one less than a multiple of the ring's.
        for ring in (1, 2, 5, 8):
            rows = [((state + 1) % ring,) * 3 for state in range(ring)]
            comp = (1, tuple(rows), (-1,) * (ring - 1) + (0,))
            self.assert_extremes(comp, 12)
        # Told -1 of words of one length that have fewer than 6 letters.
        rows = [(min(state + 1, 6), 7, 7) for state in range(7)] + [(7, 7, 7)]
        comp = (1, tuple(rows), (-1,) * 6 + (0, 0))
        self.assert_exactly(least(comp), "a" * 6)
        # Told 1 of a word and itself while it has fewer than 6 letters "b".
        rows = [(state, 7, 7, 7, min(state + 1, 6), 7, 7, 7) for state in range(7)] + [(7,) * 8]
        comp = (2, tuple(rows), (1,) * 6 + (0, 0))
        self.assert_exactly(greatest(comp), "b" * 6)

    def test_states_that_no_words_come_to(self):
        chance = random.Random(98)
        for _ in range(40):
            letters = chance.randrange(1, 4)
            order = random_order(chance, letters, 0)
            wide = with_dead_states(order, chance, 5)
            for function in (least, greatest, heads):
                self.assert_exactly(function(wide), function(order))

    def test_an_order_has_a_least_word_or_none(self):
        """[2] (e): of an order, that of which -1 or 0 is told with each word."""
        chance = random.Random(99)
        for _ in range(60):
            letters = chance.randrange(1, 4)
            comp = some_comp(chance, letters, 8)
            if not is_order(comp):
                continue
            read = words(letters, {1: 12, 2: 5, 3: 3}[letters])
            for word, sides in ((least(comp), (-1, 0)), (greatest(comp), (0, 1))):
                if word is not None:
                    self.assertTrue(all([tells(comp, word, other) in sides for other in read]))


class HeadsTest(ExactCase):
    def assert_heads(self, comp, longest, read):
        """Held against both plain searches; heads are none any more where many lengths have none."""
        result = self.checked(heads, comp)
        found = heads_by_length(comp, longest)
        verdicts = told_of_all(comp, read)
        plain = [0] * (len(read[-1]) + 1)
        for place, word in enumerate(read):
            if 0 not in [verdicts[other, word] for other in read[:place]]:
                plain[len(word)] += 1
        self.assertEqual(found[:len(plain)], plain)
        if any(found[longest // 2:]):
            self.assert_exactly(result, None)
        else:
            self.assert_exactly(result, sum(found))
        return result

    def test_one_letter(self):
        chance = random.Random(100)
        results = set()
        for _ in range(120):
            comp = some_comp(chance, 1, STATES[1])
            results.add(self.assert_heads(comp, 300, words(1, 12)))
        self.assertIn(None, results)
        self.assertGreater(len(results), 4)

    def test_more_letters(self):
        chance = random.Random(101)
        results = set()
        for letters in (2, 2, 2, 3, 3) * 16:
            comp = some_comp(chance, letters, 4)
            results.add(self.assert_heads(comp, 60, words(letters, {2: 4, 3: 3}[letters])))
        self.assertIn(None, results)
        self.assertGreater(len(results), 3)

    def test_classes_of_orders(self):
        for letters in (1, 2, 3):
            width = len(COLUMNS[letters])
            self.assert_exactly(heads((letters, ((0,) * width,), (0,))), 1)
            self.assert_exactly(heads(by_length(letters)), None)
            for many in range(2, 8):
                self.assert_exactly(heads(few_lengths(letters, many)), many)

    def test_classes_of_a_finite_order_of_words(self):
        # Words are ranked by their first letters alone: "", and one class for each rank.
        for ranks, expected in (((0, 1, 2), 4), ((0, 1, 1), 3), ((0, 0, 0), 2)):
            comp = first_letters(ranks)
            self.assert_exactly(is_order(comp), True)
            self.assert_exactly(heads(comp), expected)
            self.assert_exactly(heads(folded(comp, ("a", "b"))), len(set(ranks[:2])) + 1)

    def test_no_earlier_word_is_the_word_itself_or_a_later_one(self):
        # Of no two words 0 is told; of each word and itself; of each word and an earlier one.
        self.assert_exactly(heads((1, ((0, 0, 0),), (1,))), None)
        self.assert_exactly(heads((1, ((0, 1, 1), (1, 1, 1)), (0, 1))), None)
        self.assert_exactly(heads((1, ((0, 1, 2), (1, 1, 1), (2, 2, 2)), (1, 0, 1))), None)
        # Of each word and a later one, in this order: only "" has no earlier one.
        self.assert_exactly(heads((1, ((0, 1, 2), (1, 1, 1), (2, 2, 2)), (1, 1, 0))), 1)

    def test_earlier_words_of_the_same_length(self):
        # 0 is told of unlike words of one length: a head is the first one of each length.
        row = tuple([1 if "." in column else 0 if column[0] == column[1] else 2 for column in COLUMNS[2]])
        comp = (2, (row, (1,) * 8, (2, 2, 1, 2, 2, 1, 1, 1)), (1, 1, 0))
        self.assertEqual(heads_by_length(comp, 8), [1] * 9)
        self.assert_exactly(heads(comp), None)
        # 0 is told of all unlike words.
        row = tuple([0 if column[0] == column[1] else 2 for column in COLUMNS[2]])
        comp = (2, (row, (1,) * 8, (2,) * 8), (1, 1, 0))
        self.assert_exactly(heads(comp), 1)

    def test_eight_states(self):
        chance = random.Random(102)
        for letters in (1, 2, 2, 3, 3) * 3:
            comp = random_comp(chance, letters, 8, (-1, -1, 0, 1, 1))
            self.assert_heads(comp, {1: 200, 2: 16, 3: 10}[letters], words(letters, 3))

    def test_many_sets_of_states(self):
        # Words come to more than 200000 sets of what can stand beside them.
        rows = ((5, 4, 1, 0, 5, 4, 1, 0, 5, 4, 1, 0, 5, 2, 1), (7, 5, 3, 0, 7, 5, 3, 0, 7, 1, 3, 0, 7, 0, 7),
                (2, 0, 6, 0, 2, 0, 6, 0, 2, 0, 6, 0, 2, 6, 5), (1, 3, 0, 0, 1, 3, 0, 0, 1, 3, 0, 0, 1, 3, 0),
                (3, 2, 2, 0, 3, 2, 2, 0, 3, 2, 2, 0, 3, 7, 2), (6, 7, 5, 0, 6, 7, 5, 0, 6, 5, 5, 0, 6, 1, 4),
                (0, 6, 7, 0, 0, 6, 7, 0, 0, 6, 7, 0, 0, 4, 7), (4, 7, 4, 0, 4, 1, 4, 0, 4, 7, 4, 0, 4, 5, 6))
        self.assert_exactly(heads((3, rows, (0,) * 8)), 1)
        self.assert_exactly(heads((3, rows, (1, 0) + (1,) * 6)), None)


def few_lengths(letters, many):
    """By length, but words of many - 1 letters or more are told the same."""
    rows = []
    for count in range(many):
        row = []
        for column in COLUMNS[letters]:
            if count >= many - 1:
                row.append(count)
            elif "." not in column:
                row.append(count + 1)
            else:
                row.append(many if column[0] == "." else many + 1)
        rows.append(tuple(row))
    width = len(COLUMNS[letters])
    rows += [(many,) * width, (many + 1,) * width]
    return (letters, tuple(rows), (0,) * many + (-1, 1))


def first_letters(ranks):
    """By the ranks of the first letters; the empty word is less than all others."""
    row = []
    for first, second in COLUMNS[3]:
        one, other = [-1 if sign == "." else ranks["abc".index(sign)] for sign in (first, second)]
        row.append(1 if one < other else 2 if one > other else 3)
    return (3, (tuple(row), (1,) * 15, (2,) * 15, (3,) * 15), (0, -1, 1, 0))


if __name__ == "__main__":
    unittest.main()
