"""Points [6] and [7] without papers: the faults, is_order, unlike and tie of surelyorders/faults.py."""

import inspect
import itertools
import random
import unittest

from surelyorders import faults
from surelyorders.comps import tells
from surelyorders.errors import Unlike
from surelyorders.faults import (
    chain_fault, is_order, paper, paper_holds, self_fault, tie, turn_fault, unlike,
)
from surelyorders.makings import by_length, by_ranks, then, turned
from tests.plain import (
    COLUMNS, PLAIN, ExactCase, bent, first_of, random_comp, random_order, random_word,
    some_comp, told, told_of_all, with_dead_states, words,
)

LONGEST = {1: 9, 2: 3, 3: 2}


def is_broken(verdicts, one, other, third):
    """Whether three words break the third rule."""
    return (
        verdicts[one, other] <= 0 and verdicts[other, third] <= 0 and verdicts[one, third] == 1
    )


def plain_faults(comp, longest):
    """What a plain search over all words of at most so many letters finds of the three rules."""
    read = words(comp[0], longest)
    verdicts = told_of_all(comp, read)
    selfs = [word for word in read if verdicts[word, word] != 0]
    turns = [pair for pair in verdicts if verdicts[pair] != -verdicts[pair[1], pair[0]]]
    chains = [
        pair + (third,) for pair in verdicts if verdicts[pair] <= 0
        for third in read if is_broken(verdicts, *pair, third)
    ]
    return selfs[0] if selfs else None, first_of(turns), first_of(chains)


class FaultsCase(ExactCase):
    def assert_first(self, result, plain, longest):
        """The result is what a search of words of at most so many letters finds, or is longer."""
        parts = (result,) if isinstance(result, str) else result
        if result is not None and max([len(word) for word in parts]) > longest:
            self.assertIsNone(plain)
        else:
            self.assert_exactly(result, plain)

    def assert_faults(self, comp, longest=None):
        """All that is said of orders and faults of the comparison, against a plain search."""
        longest = longest or LONGEST[comp[0]]
        found = [self.checked(fault, comp) for fault in (self_fault, turn_fault, chain_fault)]
        for result, plain in zip(found, plain_faults(comp, longest)):
            self.assert_first(result, plain, longest)
        self.assert_shown(comp, *found)
        self.assert_exactly(self.checked(is_order, comp), found == [None] * 3)
        self.assert_exactly(paper(comp) is None, found != [None] * 3)
        return found

    def assert_shown(self, comp, one, pair, triple):
        """What is returned does break the rules."""
        if one is not None:
            self.assertNotEqual(told(comp, one, one), 0)
        if pair is not None:
            self.assertNotEqual(told(comp, *pair), -told(comp, pair[1], pair[0]))
        if triple is not None:
            first, second, third = triple
            self.assertLessEqual(told(comp, first, second), 0)
            self.assertLessEqual(told(comp, second, third), 0)
            self.assertEqual(told(comp, first, third), 1)


class ExampleTest(FaultsCase):
    def test_first_example_of_section_3(self):
        plain = (1, ((0, 1, 2), (1, 1, 1), (2, 2, 2)), (0, 1, -1))
        results = [
            self_fault(plain), turn_fault(plain), chain_fault(plain),
            is_order(by_ranks(2, (3, 3))),
            turn_fault((1, ((0, 1, 1), (1, 1, 1)), (0, 1))),
            self_fault((1, ((1, 0, 0), (0, 0, 0)), (0, 1))),
        ]
        self.assertEqual(repr(results), "[None, None, None, True, ('', 'a'), 'a']")

    def test_third_example_of_section_3(self):
        results = [
            unlike(by_length(2), by_ranks(2, (0, 0))),
            unlike(by_length(2), by_ranks(2, (0, 1))),
            tie(by_length(2)),
            tie(then(by_length(2), by_ranks(2, (0, 1)))),
        ]
        self.assertEqual(repr(results), "[None, ('a', 'b'), ('a', 'b'), None]")


class InterfaceTest(FaultsCase):
    def test_names_and_arguments(self):
        for function, names in (
            (self_fault, ["comp"]), (turn_fault, ["comp"]), (chain_fault, ["comp"]),
            (is_order, ["comp"]), (paper, ["comp"]), (paper_holds, ["comp", "value"]),
            (unlike, ["one", "other"]), (tie, ["comp"]),
        ):
            self.assertEqual(list(inspect.signature(function).parameters), names)
            self.assertEqual(function.__module__, "surelyorders.faults")
            self.assertTrue(inspect.isfunction(getattr(faults, function.__name__)))

    def test_arguments_by_name(self):
        for fault in (self_fault, turn_fault, chain_fault):
            self.assert_exactly(fault(comp=PLAIN), None)
        self.assert_exactly(is_order(comp=PLAIN), True)
        self.assert_exactly(unlike(other=PLAIN, one=PLAIN), None)
        self.assert_exactly(tie(comp=PLAIN), None)
        self.assert_exactly(paper_holds(value=paper(comp=PLAIN), comp=PLAIN), True)


class FirstFaultsTest(FaultsCase):
    def test_one_state(self):
        for letters in (1, 2, 3):
            row = (0,) * len(COLUMNS[letters])
            for verdict in (-1, 1):
                comp = (letters, (row,), (verdict,))
                self.assertEqual(self.assert_faults(comp), ["", ("", ""), None])
            self.assertEqual(self.assert_faults((letters, (row,), (0,))), [None] * 3)

    def test_all_comparisons_of_two_states_and_one_letter(self):
        rows = list(itertools.product((0, 1), repeat=3))
        for first, second in itertools.product(rows, repeat=2):
            for verdicts in itertools.product((-1, 0, 1), repeat=2):
                self.assert_faults((1, (first, second), verdicts), 5)

    def test_any_comparisons(self):
        chance = random.Random(60)
        for _ in range(150):
            self.assert_faults(some_comp(chance, chance.randrange(1, 4), 5))

    def test_orders(self):
        chance = random.Random(61)
        for _ in range(40):
            comp = random_order(chance, chance.randrange(1, 4))
            self.assertEqual(self.assert_faults(comp), [None] * 3)

    def test_orders_with_a_change(self):
        chance = random.Random(62)
        kinds = set()
        for _ in range(120):
            letters = chance.randrange(1, 4)
            comp = bent(chance, random_order(chance, letters), chance.choice((1, 1, 2)))
            kinds.add(tuple([found is None for found in self.assert_faults(comp)]))
        # Some have just this or that fault, some several, and some none.
        self.assertGreaterEqual(len(kinds), 4)

    def test_longer_words_of_two_letters(self):
        chance = random.Random(63)
        for _ in range(12):
            self.assert_faults(bent(chance, random_order(chance, 2), 1), 4)

    def test_states_that_no_words_come_to(self):
        chance = random.Random(64)
        for _ in range(40):
            letters = chance.randrange(1, 4)
            order = with_dead_states(random_order(chance, letters, 1), chance, 3)
            self.assertEqual(self.assert_faults(order), [None] * 3)

    def test_states_that_columns_come_to_but_no_words(self):
        # Behind an end only a letter and the end of the same word can follow.
        comp = (1, ((0, 1, 2), (3, 1, 3), (3, 3, 2), (3, 3, 3)), (0, 1, -1, 1))
        self.assertEqual(self.assert_faults(comp), [None] * 3)
        self.assert_exactly(paper_holds(comp, paper(comp)), True)
        for column, place in (("aa", 0), (".a", 2)):
            rows = [list(row) for row in comp[1]]
            rows[1][place] = 2
            changed = (1, tuple([tuple(row) for row in rows]), comp[2])
            self.assertEqual(self.assert_faults(changed), [None] * 3, column)

    def test_verdict_0_everywhere(self):
        chance = random.Random(65)
        for letters in (1, 2, 3):
            for states in (1, 2, 7):
                comp = random_comp(chance, letters, states, (0,))
                self.assertEqual(self.assert_faults(comp), [None] * 3)
                self.assert_exactly(self.checked(tie, comp), ("", "a"))

    def test_one_word_twice_in_a_fault(self):
        # ("", "a", "") and the like: of a word and itself it tells 1.
        comp = (1, ((1, 2, 2), (1, 2, 2), (2, 2, 2)), (0, 1, -1))
        self.assertEqual(self.assert_faults(comp)[2], ("a", "", "a"))


class LongFaultsTest(FaultsCase):
    """Words of faults that no plain search reaches; they follow from how the rings are made."""

    def test_self_fault(self):
        for states in (1, 2, 39, 40):
            rows = [((state + 1) % states,) * 3 for state in range(states)]
            comp = (1, tuple(rows), (0,) * (states - 1) + (1,))
            self.assert_exactly(self.checked(self_fault, comp), "a" * (states - 1))
        # Only "b" goes on to the next state, "a" goes back.
        rows = [(0, 0, 0, 0, min(state + 1, 39), 0, 0, 0) for state in range(40)]
        comp = (2, tuple(rows), (0,) * 39 + (-1,))
        self.assert_exactly(self.checked(self_fault, comp), "b" * 39)

    def two_rings(self, one, other):
        """The verdict of both rings is 0 but at the last of each; "ab" and "ba" lead into them."""
        sink = one + other + 1
        rows = [[0, 1, sink, one + 1, 0, sink, sink, sink]]
        for begin, size in ((1, one), (one + 1, other)):
            for step in range(size):
                nexts = begin + (step + 1) % size
                rows.append([nexts, nexts, sink, nexts, nexts, sink, sink, sink])
        verdicts = [0] * (sink + 1)
        verdicts[one], verdicts[one + other] = 1, -1
        return (2, tuple([tuple(row) for row in rows + [[sink] * 8]]), tuple(verdicts))

    def test_turn_fault(self):
        for one, other, length in ((19, 19, None), (18, 20, 18), (20, 18, 18), (1, 37, 1)):
            found = self.checked(turn_fault, self.two_rings(one, other))
            expected = None if length is None else ("a" * length, "b" + "a" * (length - 1))
            self.assert_exactly(found, expected)
        # Two rings of 19 whose verdicts are contrary, but that one counts twice round.
        one = self.two_rings(19, 19)
        rows = [list(row) for row in one[1]]
        rows[19] = [39 if item == 1 else item for item in rows[19]]
        rows[39] = [1] * 8
        self.assertEqual(turn_fault((2, tuple([tuple(row) for row in rows]), one[2])),
                         ("a" * 38, "b" + "a" * 37))

    def test_unlike(self):
        def ring(states, verdict):
            rows = tuple([((state + 1) % states,) * 3 for state in range(states)])
            return (1, rows, (verdict,) + (0,) * (states - 1))
        for one, other in ((40, 39), (37, 40), (39, 38)):
            found = self.checked(unlike, ring(one, 1), ring(other, 1))
            self.assert_exactly(found, ("", "a" * min(one, other)))
        # A ring of 35 states made of two, and the same one but for its last state.
        def marked(states, low, high):
            rows = [((state + 1) % states,) * 3 for state in range(states)]
            return (1, tuple(rows), (low,) + (high,) * (states - 1))
        both = then(turned(marked(5, 1, 0)), marked(7, 0, 1))
        self.assertEqual(len(both[1]), 35)
        self.assert_exactly(unlike(both, both), None)
        changed = (1, both[1], both[2][:34] + (-both[2][34],))
        self.assert_exactly(unlike(both, changed), ("", "a" * 34))

    def three_rings(self, one, other, third):
        """A chain breaks only where the three rings come to their last states at once."""
        sink = one + other + third + 1
        begins = {"ab": 1, "bc": one + 1, "ac": one + other + 1}
        rows = [[begins.get(column, sink) for column in COLUMNS[3]]]
        for begin, size in zip(begins.values(), (one, other, third)):
            for step in range(size):
                nexts = begin + (step + 1) % size
                rows.append([sink if "." in column else nexts for column in COLUMNS[3]])
        verdicts = [0] + [1] * (one + other) + [0] * third + [1]
        verdicts[one] = verdicts[one + other] = -1
        verdicts[one + other + third] = 1
        return (3, tuple([tuple(row) for row in rows + [[sink] * 15]]), tuple(verdicts))

    def test_chain_fault(self):
        for sizes, length in (((1, 1, 1), 1), ((3, 5, 1), 15), ((5, 5, 3), 15), ((11, 13, 14), 2002)):
            comp = self.three_rings(*sizes)
            rest = "a" * (length - 1)
            found = self.checked(chain_fault, comp)
            self.assert_exactly(found, ("a" + rest, "b" + rest, "c" + rest))
            self.assert_shown(comp, None, None, found)

    def test_chain_of_rings_that_never_meet(self):
        comp = self.three_rings(6, 10, 1)
        verdicts = list(comp[2])
        # The first two rings come to -1 in turns only.
        verdicts[6], verdicts[5] = 1, -1
        self.assert_exactly(chain_fault((3, comp[1], tuple(verdicts))), None)

    def test_tie(self):
        # Words of unlike lengths are told 1, those of one length 0 where they are 38 places long.
        rows = [(min(state + 1, 38),) * 4 + (39,) * 4 for state in range(39)]
        rows = [(row[0], row[0], 39, row[0], row[0], 39, 39, 39) for row in rows] + [(39,) * 8]
        comp = (2, tuple(rows), (1,) * 38 + (0, 1))
        self.assert_exactly(self.checked(tie, comp), ("a" * 38, "a" * 37 + "b"))


class ManyStatesTest(FaultsCase):
    def test_comparisons_of_forty_states(self):
        chance = random.Random(66)
        for letters in (1, 2, 3) * 4:
            self.assert_faults(random_comp(chance, letters, 40, (-1, 0, 0, 0, 0, 1)))
            other = random_comp(chance, letters, 39)
            found = unlike(random_comp(chance, letters, 40), other)
            self.assertIsNotNone(found)

    def test_orders_of_many_states(self):
        chance = random.Random(67)
        for letters in (1, 2, 3):
            # Of a kind that comes to many spots: the same verdict whatever is read.
            comp = random_comp(chance, letters, 40 if letters == 1 else 20, (0,))
            self.assertEqual([self_fault(comp), turn_fault(comp), chain_fault(comp)], [None] * 3)
            self.assert_exactly(is_order(comp), True)
            order = random_order(chance, letters, 2)
            wide = with_dead_states(order, chance, 40 - len(order[1]))
            self.assertEqual(len(wide[1]), 40)
            self.assertEqual(self.assert_faults(wide), [None] * 3)

    def test_an_order_that_words_take_all_over(self):
        for times in (1, 7, 12):
            comp = last_ranked(times)
            self.assertEqual(self.assert_faults(comp), [None] * 3)
            self.assert_exactly(paper_holds(comp, paper(comp)), True)


def last_ranked(times):
    """By length, then by the letters at the last place of unlike ones; the states count places."""
    leads = (0, -1, 1)
    less, more = 3 * times, 3 * times + 1
    rows = []
    for lead in leads:
        for count in range(times):
            row = []
            for first, second in COLUMNS[3]:
                now = (first > second) - (first < second) or lead
                state = leads.index(now) * times + (count + 1) % times
                row.append(less if first == "." else more if second == "." else state)
            rows.append(tuple(row))
    rows += [(less,) * 15, (more,) * 15]
    return (3, tuple(rows), (0,) * times + (-1,) * times + (1,) * times + (-1, 1))


class UnlikeAndTieTest(FaultsCase):
    def test_against_a_plain_search(self):
        chance = random.Random(68)
        for _ in range(200):
            letters = chance.randrange(1, 4)
            one = some_comp(chance, letters, 6)
            other = bent(chance, one, 1) if chance.random() < 0.7 else some_comp(chance, letters, 6)
            longest = LONGEST[letters] + (letters == 2)
            read = words(letters, longest)
            ones, others = told_of_all(one, read), told_of_all(other, read)
            plain = first_of([pair for pair in ones if ones[pair] != others[pair]])
            self.assert_first(self.checked(unlike, one, other), plain, longest)
            plain = first_of([pair for pair in ones if pair[0] != pair[1] and ones[pair] == 0])
            self.assert_first(self.checked(tie, one), plain, longest)

    def test_the_same_told_by_other_states(self):
        chance = random.Random(69)
        for _ in range(60):
            letters = chance.randrange(1, 4)
            one = random_comp(chance, letters, chance.randrange(1, 6))
            names = list(range(1, len(one[1]) + 2))
            chance.shuffle(names)
            names = [0] + names[:len(one[1]) - 1]
            many = len(one[1]) + 2
            rows = [(0,) * len(COLUMNS[letters])] * many
            verdicts = [1] * many
            for state, name in enumerate(names):
                rows[name] = tuple([names[item] for item in one[1][state]])
                verdicts[name] = one[2][state]
            other = (letters, tuple(rows), tuple(verdicts))
            self.assert_exactly(unlike(one, other), None)
            self.assert_exactly(unlike(other, one), None)
            self.assert_exactly(unlike(one, one), None)

    def test_unlike_at_the_empty_words(self):
        for one, other in itertools.permutations((-1, 0, 1), 2):
            first, second = (3, ((0,) * 15,), (one,)), (3, ((0,) * 15,), (other,))
            self.assert_exactly(unlike(first, second), ("", ""))

    def test_unlike_numbers_of_letters(self):
        chance = random.Random(70)
        for letters, others in itertools.permutations((1, 2, 3), 2):
            for states in (1, 40):
                with self.assertRaises(Unlike) as caught:
                    unlike(random_comp(chance, letters, states), random_comp(chance, others, states))
                self.assertIs(type(caught.exception), Unlike)

    def test_pythons_order_goes_by_whole_words(self):
        # Unlike for ("ab", "aa") and ("aa", "ba"); place by place the former would be ahead.
        same = (2, ((0,) * 8,), (0,))
        rows = ((1, 2, 4, 4, 4, 4, 4, 4), (4, 4, 4, 3, 4, 4, 4, 4), (3, 4, 4, 4, 4, 4, 4, 4))
        comp = (2, rows + ((4,) * 8,) * 2, (0, 0, 0, 1, 0))
        self.assert_exactly(unlike(comp, same), ("aa", "ba"))
        # A shorter word is ahead of its longer ones, whatever the second word is.
        rows = ((4, 3, 4, 4, 4, 4, 4, 3), (4,) * 8, (4,) * 8)
        comp = (2, rows + ((4,) * 8,) * 2, (0, 0, 0, 1, 0))
        self.assert_exactly(unlike(comp, same), ("", "b"))
        # Fewer letters of the longest word are ahead of all.
        rows = ((4, 2, 4, 1, 4, 4, 4, 4), (4,) * 8, (4, 4, 3, 4, 4, 4, 4, 4))
        comp = (2, rows + ((4,) * 8,) * 2, (0, 1, 0, 1, 0))
        self.assert_exactly(unlike(comp, same), ("b", "a"))

    def test_unlike_only_in_states_that_no_words_come_to(self):
        chance = random.Random(71)
        order = random_order(chance, 2, 1)
        for _ in range(20):
            self.assert_exactly(unlike(order, with_dead_states(order, chance, 4)), None)

    def test_tie_of_words_of_unlike_lengths(self):
        # Told 0: of "a" and "aa" alone.
        comp = (1, ((1, 3, 3), (3, 3, 2), (3, 3, 3), (3, 3, 3)), (1, 1, 0, -1))
        self.assert_exactly(tie(comp), ("a", "aa"))

    def test_no_word_is_a_tie_with_itself(self):
        for letters in (1, 2, 3):
            self.assert_exactly(tie(by_ranks(letters, tuple(range(letters)))), None)
            expected = None if letters == 1 else ("a", "b")
            self.assert_exactly(tie(by_ranks(letters, (1,) * letters)), expected)


class LongWordsTest(FaultsCase):
    def test_orders_hold_for_long_words(self):
        chance = random.Random(72)
        for _ in range(30):
            letters = chance.randrange(1, 4)
            comp = bent(chance, random_order(chance, letters), chance.choice((0, 1)))
            ordered = is_order(comp)
            for _ in range(30):
                read = [random_word(chance, letters, 40) for _ in range(3)]
                if ordered:
                    verdicts = {pair: tells(comp, *pair) for pair in itertools.product(read, repeat=2)}
                    for pair in verdicts:
                        self.assertEqual(verdicts[pair], -verdicts[pair[1], pair[0]])
                    for triple in itertools.product(read, repeat=3):
                        self.assertFalse(is_broken(verdicts, *triple))


if __name__ == "__main__":
    unittest.main()
