"""Point [5]: by_ranks, by_length, turned, then and folded of surelyorders/makings.py."""

import inspect
import itertools
import random
import unittest

from surelyorders import makings
from surelyorders.comps import comp_error, tells
from surelyorders.errors import OrderError, Unlike
from surelyorders.faults import chain_fault, is_order, self_fault, turn_fault
from surelyorders.makings import by_length, by_ranks, folded, then, turned
from tests.plain import (
    COLUMNS, NEVER, PLAIN, ExactCase, pairs_come_to, random_comp, random_order, random_word, ranked,
    told, words,
)


class ExampleTest(ExactCase):
    def test_example_of_section_2(self):
        ranked_two = by_ranks(2, (5, 1))
        short = then(by_length(2), turned(by_ranks(2, (0, 1))))
        results = [
            tells(ranked_two, "ab", "aa"),
            tells(ranked_two, "a", "ab"),
            tells(short, "b", "aa"),
            tells(short, "ab", "ba"),
            tells(by_ranks(3, (0, 0, 1)), "ab", "ba"),
            tells(folded(ranked_two, ("b", "a", "a")), "ac", "ab"),
        ]
        self.assertEqual(repr(results), "[-1, -1, -1, 1, 0, 0]")


class InterfaceTest(ExactCase):
    def test_names_and_arguments(self):
        for function, names in (
            (by_ranks, ["letters", "ranks"]), (by_length, ["letters"]), (turned, ["comp"]),
            (then, ["one", "other"]), (folded, ["comp", "images"]),
        ):
            self.assertEqual(list(inspect.signature(function).parameters), names)
            self.assertEqual(function.__module__, "surelyorders.makings")
            self.assertTrue(inspect.isfunction(getattr(makings, function.__name__)))

    def test_arguments_by_name(self):
        self.assert_exactly(by_ranks(ranks=(0,), letters=1), ranked(1, (0,)))
        self.assert_exactly(by_length(letters=2), ranked(2, (0, 0)))
        self.assert_exactly(turned(comp=NEVER), NEVER)
        self.assert_exactly(then(other=PLAIN, one=NEVER), PLAIN)
        self.assert_exactly(folded(images=("a",), comp=PLAIN), PLAIN)


class RanksTest(ExactCase):
    def test_written_out(self):
        sinks = ((1,) * 8, (2,) * 8)
        for ranks, row in (
            ((0, 1), (0, 1, 2, 2, 0, 2, 1, 1)),
            ((5, 1), (0, 2, 2, 1, 0, 2, 1, 1)),
            ((3, 3), (0, 0, 2, 0, 0, 2, 1, 1)),
        ):
            self.assert_exactly(by_ranks(2, ranks), (2, (row,) + sinks, (0, -1, 1)))
        self.assert_exactly(by_ranks(1, (7,)), (1, ((0, 2, 1), (1, 1, 1), (2, 2, 2)), (0, -1, 1)))
        row = (0, 2, 2, 2, 1, 0, 0, 2, 1, 0, 0, 2, 1, 1, 1)
        expected = (3, (row, (1,) * 15, (2,) * 15), (0, -1, 1))
        self.assert_exactly(by_ranks(3, (9, 4, 4)), expected)

    def test_all_ranks(self):
        huge = 10 ** 60
        for letters in (1, 2, 3):
            for ranks in itertools.product((-huge, -1, 0, 2, huge), repeat=letters):
                made = self.checked(by_ranks, letters, ranks)
                self.assert_exactly(made, ranked(letters, ranks))
                self.assert_exactly(comp_error(made), None)

    def test_what_it_tells(self):
        for letters, longest in ((1, 5), (2, 4), (3, 2)):
            for ranks in itertools.product((0, 1, 2), repeat=letters):
                comp = by_ranks(letters, ranks)
                for one in words(letters, longest):
                    for other in words(letters, longest):
                        self.assertEqual(tells(comp, one, other), self.plainly(ranks, one, other))

    def plainly(self, ranks, one, other):
        for first, second in zip(one, other):
            low, high = ranks["abc".index(first)], ranks["abc".index(second)]
            if low != high:
                return -1 if low < high else 1
        return (len(one) > len(other)) - (len(one) < len(other))

    def test_by_length(self):
        for letters in (1, 2, 3):
            made = self.checked(by_length, letters)
            self.assert_exactly(made, ranked(letters, (0,) * letters))
            for rank in (0, 5, -3):
                self.assert_exactly(by_ranks(letters, (rank,) * letters), made)
        for one, other, expected in (("", "", 0), ("", "a", -1), ("bb", "c", 1), ("ca", "ab", 0)):
            self.assert_exactly(tells(by_length(3), one, other), expected)


class TurnedTest(ExactCase):
    def test_contrary_verdicts(self):
        self.assert_exactly(turned(PLAIN), (1, PLAIN[1], (0, -1, 1)))
        self.assert_exactly(turned((1, ((0, 0, 0),), (1,))), (1, ((0, 0, 0),), (-1,)))
        self.assert_exactly(turned(NEVER), NEVER)

    def test_any_comparison(self):
        chance = random.Random(50)
        for _ in range(60):
            letters = chance.randrange(1, 4)
            comp = random_comp(chance, letters, chance.randrange(1, 41))
            result = self.checked(turned, comp)
            verdicts = tuple([{-1: 1, 0: 0, 1: -1}[verdict] for verdict in comp[2]])
            self.assert_exactly(result, (letters, comp[1], verdicts))
            self.assert_exactly(turned(result), comp)


class ThenTest(ExactCase):
    def test_numbers_written_out(self):
        one = (1, ((0, 1, 2), (1, 1, 1), (2, 2, 2)), (0, 1, -1))
        two = (1, ((1, 0, 1), (0, 1, 0)), (1, 0))
        # The pairs as they are come to: 00, 01, 10, 21, 11, 20.
        rows = ((1, 2, 3), (0, 4, 5), (4, 2, 4), (5, 3, 5), (2, 4, 2), (3, 5, 3))
        self.assert_exactly(then(one, two), (1, rows, (1, 0, 1, -1, 1, -1)))

    def test_states_such_as_no_words_have(self):
        # No words show a letter beside a letter behind an end; the columns lead there all the same.
        one = (1, ((0, 0, 1), (2, 1, 1), (2, 2, 2)), (0, 0, 1))
        self.assert_exactly(then(one, NEVER), one)
        self.assert_exactly(then(NEVER, one), one)

    def test_states_that_columns_do_not_lead_to(self):
        one = (1, ((0, 0, 0), (1, 1, 1)), (0, 1))
        self.assert_exactly(then(one, one), (1, ((0, 0, 0),), (0,)))
        renumbered = (1, ((2, 2, 2), (1, 1, 1), (0, 0, 2)), (0, 1, -1))
        self.assert_exactly(then(renumbered, NEVER), (1, ((1, 1, 1), (0, 0, 1)), (0, -1)))

    def test_verdicts(self):
        for first, second in itertools.product((-1, 0, 1), repeat=2):
            one, other = (1, ((0, 0, 0),), (first,)), (1, ((0, 0, 0),), (second,))
            expected = (1, ((0, 0, 0),), (first if first != 0 else second,))
            self.assert_exactly(then(one, other), expected)

    def test_numbers_of_any_comparisons(self):
        chance = random.Random(51)
        for states in (1, 2, 2, 3, 3, 4, 5, 6) * 8:
            letters = chance.randrange(1, 4)
            one = random_comp(chance, letters, states)
            other = random_comp(chance, letters, chance.randrange(1, 6))
            pairs, rows = pairs_come_to(one, other)
            verdicts = tuple([one[2][first] or other[2][second] for first, second in pairs])
            self.assert_exactly(self.checked(then, one, other), (letters, rows, verdicts))

    def test_what_it_tells(self):
        chance = random.Random(52)
        for letters, longest in ((1, 5), (2, 3), (3, 2)) * 8:
            one = random_comp(chance, letters, chance.randrange(1, 5), (-1, 0, 0, 1))
            other = random_comp(chance, letters, chance.randrange(1, 5))
            comp = then(one, other)
            for first in words(letters, longest):
                for second in words(letters, longest):
                    expected = told(one, first, second) or told(other, first, second)
                    self.assert_exactly(tells(comp, first, second), expected)

    def test_more_than_forty_states(self):
        def ring(states):
            rows = tuple([((state + 1) % states,) * 3 for state in range(states)])
            return (1, rows, (1,) + (0,) * (states - 1))
        comp = then(ring(40), ring(39))
        self.assertEqual(len(comp[1]), 1560)
        self.assert_exactly(comp_error(comp), None)
        self.assert_exactly(comp[1][:2] + comp[1][-1:], ((1,) * 3, (2,) * 3, (0,) * 3))
        for length in (0, 1, 39, 40, 1559, 1560):
            expected = 1 if length % 40 == 0 or length % 39 == 0 else 0
            self.assert_exactly(tells(comp, "a" * length, "a"), expected if length else 0)
        chance = random.Random(53)
        one, other = random_comp(chance, 3, 40, (0, 0, 1)), random_comp(chance, 3, 40)
        comp = self.checked(then, one, other)
        self.assertGreater(len(comp[1]), 1000)
        self.assert_exactly(comp_error(comp), None)
        for _ in range(50):
            first, second = random_word(chance, 3, 30), random_word(chance, 3, 30)
            expected = told(one, first, second) or told(other, first, second)
            self.assert_exactly(tells(comp, first, second), expected)

    def test_unlike_numbers_of_letters(self):
        chance = random.Random(54)
        for letters, others in itertools.permutations((1, 2, 3), 2):
            for states in (1, 3, 40):
                with self.assertRaises(Unlike) as caught:
                    then(random_comp(chance, letters, states), random_comp(chance, others, 2))
                self.assertIs(type(caught.exception), Unlike)
                self.assertIsInstance(caught.exception, OrderError)


class FoldedTest(ExactCase):
    def test_written_out(self):
        two = by_ranks(2, (0, 1))
        self.assert_exactly(folded(two, ("b", "a")), by_ranks(2, (1, 0)))
        self.assert_exactly(folded(two, ("a",)), by_ranks(1, (0,)))
        self.assert_exactly(folded(two, ("b",)), by_ranks(1, (1,)))
        self.assert_exactly(folded(two, ("b", "b")), by_length(2))
        self.assert_exactly(folded(two, ("b", "a", "a")), by_ranks(3, (1, 0, 0)))
        self.assert_exactly(folded(PLAIN, ("a", "a", "a")), turned(turned(by_plain(3))))
        one = (2, ((0, 1, 0, 1, 1, 0, 1, 0), (1, 0, 1, 0, 0, 1, 0, 1)), (-1, 1))
        self.assert_exactly(folded(one, ("b",)), (1, ((1, 0, 0), (0, 1, 1)), (-1, 1)))

    def test_items_of_all_images(self):
        chance = random.Random(55)
        for letters in (1, 2, 3):
            for many in (1, 2, 3):
                for images in itertools.product("abc"[:letters], repeat=many):
                    comp = random_comp(chance, letters, chance.choice((1, 2, 5, 40)))
                    result = self.checked(folded, comp, images)
                    self.assert_exactly(comp_error(result), None)
                    self.assertEqual((result[0], result[2]), (many, comp[2]))
                    for row, old in zip(result[1], comp[1]):
                        for item, column in zip(row, COLUMNS[many]):
                            taken = "".join([
                                sign if sign == "." else images["abc".index(sign)] for sign in column
                            ])
                            self.assertEqual(item, old[COLUMNS[letters].index(taken)])

    def test_what_it_tells(self):
        chance = random.Random(56)
        for _ in range(300):
            letters, many = chance.randrange(1, 4), chance.randrange(1, 4)
            images = tuple([chance.choice("abc"[:letters]) for _ in range(many)])
            comp = random_comp(chance, letters, chance.randrange(1, 9))
            result = folded(comp, images)
            one, other = random_word(chance, many, 9), random_word(chance, many, 9)
            first, second = [
                "".join([images["abc".index(letter)] for letter in word]) for word in (one, other)
            ]
            self.assert_exactly(tells(result, one, other), told(comp, first, second))


def by_plain(letters):
    """The comparison by length with the states of PLAIN."""
    width = len(COLUMNS[letters])
    row = tuple([0 if "." not in column else 1 if column[1] == "." else 2
                 for column in COLUMNS[letters]])
    return (letters, (row, (1,) * width, (2,) * width), (0, 1, -1))


class OrdersOfOrdersTest(ExactCase):
    """[2] (d)."""

    def assert_order(self, comp):
        self.assertIs(is_order(comp), True)
        self.assertEqual([self_fault(comp), turn_fault(comp), chain_fault(comp)], [None] * 3)

    def test_by_ranks_and_by_length(self):
        for letters in (1, 2, 3):
            self.assert_order(by_length(letters))
            for ranks in itertools.product((-1, 0, 1), repeat=letters):
                self.assert_order(by_ranks(letters, ranks))

    def test_made_of_orders(self):
        chance = random.Random(57)
        for _ in range(40):
            letters = chance.randrange(1, 4)
            one, other = random_order(chance, letters, 1), random_order(chance, letters, 1)
            images = tuple([chance.choice("abc"[:letters]) for _ in range(chance.randrange(1, 4))])
            for comp in (turned(one), then(one, other), folded(one, images),
                         folded(then(turned(other), one), images)):
                self.assert_order(comp)


if __name__ == "__main__":
    unittest.main()
