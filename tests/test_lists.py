"""Point [9]: is_sorted, all_sorted, sorted_by, merged and places of surelyorders/lists.py."""

import functools
import inspect
import random
import unittest

from surelyorders import lists
from surelyorders.bounds import MAX_LIST
from surelyorders.errors import Faulty, NotSorted
from surelyorders.faults import chain_fault, is_order, self_fault, turn_fault
from surelyorders.lists import all_sorted, is_sorted, merged, places, sorted_by
from surelyorders.makings import by_length, by_ranks, then, turned
from tests.plain import (
    NO_CHAIN, NO_SELF, NO_TURN, PLAIN, ExactCase, outcome, random_comp, random_order, random_word,
    some_comp, told, words,
)

RISING, SHORT = by_ranks(2, (0, 1)), by_length(2)


def random_list(chance, letters, most=MAX_LIST, longest=4):
    """A list of at most so many words, some of them perhaps more than once."""
    return tuple([random_word(chance, letters, longest) for _ in range(chance.randrange(most + 1))])


def stable(comp, words_read):
    """The words in order by Python's own sort, which leaves what is the same as it stands."""
    def key(one, other):
        return told(comp, one, other)
    return tuple(sorted(words_read, key=functools.cmp_to_key(key)))


class ExampleTest(ExactCase):
    def test_first_example_of_section_5(self):
        plain, short = by_ranks(2, (0, 1)), by_length(2)
        results = [
            sorted_by(plain, ("b", "ab", "", "ab", "aa")),
            sorted_by(short, ("bb", "a", "ab", "b")),
            merged(short, ("a", "bb"), ("b", "aa")),
            places(short, ("a", "b", "aa"), "bb"),
            is_sorted(plain, ("a", "ab")),
            all_sorted(short, ()),
        ]
        expected = (
            "[('', 'aa', 'ab', 'ab', 'b'), ('a', 'b', 'bb', 'ab'), ('a', 'b', 'bb', 'aa'), "
            "(2, 3), True, True]"
        )
        self.assertEqual(repr(results), expected)

    def test_second_example_of_section_5(self):
        with self.assertRaises(Faulty) as caught:
            sorted_by((1, ((0, 1, 1), (1, 1, 1)), (0, 1)), ())
        self.assert_exactly(caught.exception.fault, ("", "a"))


class InterfaceTest(ExactCase):
    def test_names_and_arguments(self):
        for function, names in (
            (is_sorted, ["comp", "words"]), (all_sorted, ["comp", "words"]),
            (sorted_by, ["comp", "words"]), (merged, ["comp", "one", "other"]),
            (places, ["comp", "words", "word"]),
        ):
            self.assertEqual(list(inspect.signature(function).parameters), names)
            self.assertEqual(function.__module__, "surelyorders.lists")
            self.assertTrue(inspect.isfunction(getattr(lists, function.__name__)))

    def test_arguments_by_name(self):
        self.assert_exactly(is_sorted(words=("b", "a"), comp=RISING), False)
        self.assert_exactly(all_sorted(words=("a", "b"), comp=RISING), True)
        self.assert_exactly(sorted_by(words=("b", "a"), comp=RISING), ("a", "b"))
        self.assert_exactly(merged(other=("a",), one=("b",), comp=SHORT), ("b", "a"))
        self.assert_exactly(places(word="b", words=("a", "b"), comp=RISING), (1, 2))


class WhetherSortedTest(ExactCase):
    def test_short_lists(self):
        for comp in (RISING, SHORT, NO_SELF, NO_TURN, NO_CHAIN):
            for words_read in ((), ("",), ("a",), ("aaaa",)):
                self.assert_exactly(is_sorted(comp, words_read), True)
                self.assert_exactly(all_sorted(comp, words_read), True)

    def test_neighbours_alone(self):
        # Each word and its neighbour are told the same, the first and the last one are not.
        outer = ("aa", "a", "")
        self.assert_exactly(is_sorted(NO_CHAIN, outer), True)
        self.assert_exactly(all_sorted(NO_CHAIN, outer), False)
        self.assert_exactly(is_sorted(NO_SELF, ("a", "a")), False)
        self.assert_exactly(all_sorted(NO_SELF, ("a", "a")), False)

    def test_same_words_are_sorted(self):
        self.assert_exactly(is_sorted(SHORT, ("ab", "ba", "ab")), True)
        self.assert_exactly(is_sorted(RISING, ("ab", "ba", "ab")), False)

    def test_any_comparison(self):
        chance = random.Random(91)
        unlike = 0
        for _ in range(1500):
            letters = chance.randrange(1, 4)
            comp = random_comp(chance, letters, chance.randrange(1, 6), (-1, -1, -1, 0, 1))
            words_read = random_list(chance, letters, 5)
            near = all(told(comp, a, b) <= 0 for a, b in zip(words_read, words_read[1:]))
            far = all(
                told(comp, one, other) <= 0
                for place, one in enumerate(words_read) for other in words_read[place + 1:]
            )
            unlike += near != far
            self.assert_exactly(self.checked(is_sorted, comp, words_read), near)
            self.assert_exactly(self.checked(all_sorted, comp, words_read), far)
        self.assertGreater(unlike, 10)

    def test_alike_for_orders(self):
        # Guarantee (e).
        chance = random.Random(92)
        for _ in range(200):
            comp = random_order(chance, 2)
            words_read = random_list(chance, 2, 4, 2)
            if chance.random() < 0.5:
                words_read = stable(comp, words_read)
            self.assert_exactly(is_sorted(comp, words_read), all_sorted(comp, words_read))


class SortedByTest(ExactCase):
    def test_orders(self):
        chance = random.Random(93)
        for _ in range(150):
            letters = chance.randrange(1, 4)
            comp = random_order(chance, letters)
            words_read = random_list(chance, letters)
            result = self.checked(sorted_by, comp, words_read)
            self.assert_exactly(result, stable(comp, words_read))
            self.assert_exactly(all_sorted(comp, result), True)
            self.assertEqual(sorted(result), sorted(words_read))

    def test_words_told_same_as_they_stand(self):
        same = by_ranks(3, (0, 0, 0))
        every = tuple([word for word in words(3, 3) if len(word) == 3])
        self.assert_exactly(sorted_by(same, every), every)
        self.assert_exactly(sorted_by(same, every[::-1]), every[::-1])
        self.assert_exactly(sorted_by(SHORT, ("bb", "b", "ab", "a", "bb")), ("b", "a", "bb", "ab", "bb"))

    def test_small_and_full_lists(self):
        self.assert_exactly(sorted_by(RISING, ()), ())
        self.assert_exactly(sorted_by(RISING, ("b",)), ("b",))
        self.assert_exactly(sorted_by(RISING, ("b", "")), ("", "b"))
        falling = tuple(sorted(words(2, 5), reverse=True)[:MAX_LIST])
        self.assert_exactly(sorted_by(RISING, falling), falling[::-1])
        self.assert_exactly(sorted_by(RISING, ("b",) * MAX_LIST), ("b",) * MAX_LIST)

    def test_long_words(self):
        one, other = "a" * 3000 + "b", "a" * 3000 + "a"
        self.assert_exactly(sorted_by(RISING, (one, other, one)), (other, one, one))

    def test_other_orders(self):
        short = then(by_length(2), by_ranks(2, (1, 0)))
        listed = ("a", "ba", "", "b", "ab", "bb", "aa")
        self.assert_exactly(sorted_by(short, listed), ("", "b", "a", "bb", "ba", "ab", "aa"))
        turned_words = ("aa", "ab", "ba", "bb", "a", "b", "")
        self.assert_exactly(sorted_by(turned(short), listed), turned_words)


class MergedTest(ExactCase):
    def test_orders(self):
        chance = random.Random(94)
        for _ in range(150):
            letters = chance.randrange(1, 4)
            comp = random_order(chance, letters)
            one = stable(comp, random_list(chance, letters, 12))
            other = stable(comp, random_list(chance, letters, 12))
            result = self.checked(merged, comp, one, other)
            # Those of one stand ahead, and a stable sort leaves them there.
            self.assert_exactly(result, stable(comp, one + other))

    def test_written_out(self):
        self.assert_exactly(merged(SHORT, (), ()), ())
        self.assert_exactly(merged(SHORT, ("a", "b"), ()), ("a", "b"))
        self.assert_exactly(merged(SHORT, (), ("a", "b")), ("a", "b"))
        self.assert_exactly(merged(SHORT, ("b", "aa"), ("", "a", "bb")), ("", "b", "a", "aa", "bb"))
        self.assert_exactly(merged(SHORT, ("", "a", "bb"), ("b", "aa")), ("", "a", "b", "bb", "aa"))
        self.assert_exactly(merged(RISING, ("a",), ("a",)), ("a", "a"))

    def test_two_full_lists(self):
        rising = tuple(sorted(words(2, 5))[:MAX_LIST])
        expected = tuple([word for word in rising for _ in range(2)])
        self.assert_exactly(merged(RISING, rising, rising), expected)


class PlacesTest(ExactCase):
    def test_orders(self):
        chance = random.Random(95)
        for _ in range(300):
            letters = chance.randrange(1, 4)
            comp = random_order(chance, letters)
            words_read = stable(comp, random_list(chance, letters, 12))
            word = random_word(chance, letters, 4)
            verdicts = [told(comp, one, word) for one in words_read]
            expected = (verdicts.count(-1), verdicts.count(-1) + verdicts.count(0))
            self.assert_exactly(self.checked(places, comp, words_read, word), expected)

    def test_written_out(self):
        self.assert_exactly(places(SHORT, (), "a"), (0, 0))
        self.assert_exactly(places(SHORT, ("a", "b", "ab"), ""), (0, 0))
        self.assert_exactly(places(SHORT, ("a", "b", "ab"), "b"), (0, 2))
        self.assert_exactly(places(SHORT, ("a", "b", "ab"), "bb"), (2, 3))
        self.assert_exactly(places(SHORT, ("a", "b", "ab"), "aaa"), (3, 3))


class ErrorsTest(ExactCase):
    def assert_faulty(self, comp, fault):
        for call in (
            lambda: sorted_by(comp, ()),
            lambda: sorted_by(comp, ("aa", "a", "")),
            lambda: merged(comp, (), ()),
            lambda: merged(comp, ("aa", ""), ("", "aa", "")),
            lambda: places(comp, (), ""),
            lambda: places(comp, ("", "aa", ""), "a"),
        ):
            name, fields = outcome(call)
            self.assertEqual((name, list(fields)), ("Faulty", ["fault"]))
            self.assert_exactly(fields["fault"], fault)

    def test_the_first_fault(self):
        self.assert_faulty(NO_SELF, "")
        self.assert_faulty((1, ((1, 0, 0), (0, 0, 0)), (0, 1)), "a")
        self.assert_faulty(NO_TURN, ("", "a"))
        self.assert_faulty(NO_CHAIN, ("aa", "a", ""))

    def test_faults_of_any_comparisons(self):
        chance = random.Random(96)
        faulty = 0
        for _ in range(150):
            comp = some_comp(chance, chance.randrange(1, 3), 5)
            faults = [self_fault(comp), turn_fault(comp), chain_fault(comp)]
            found = [fault for fault in faults if fault is not None]
            self.assertEqual(is_order(comp), found == [])
            if found:
                faulty += 1
                self.assert_faulty(comp, found[0])
        self.assertGreater(faulty, 50)

    def test_not_sorted(self):
        # A list that no other one is: the very object is the error's.
        wrong, other_wrong, right = ("b", "a"), tuple("ba"), ("a", "b")
        for call, expected in (
            (lambda: merged(RISING, wrong, right), wrong),
            (lambda: merged(RISING, right, wrong), wrong),
            (lambda: merged(RISING, wrong, other_wrong), wrong),
            (lambda: merged(RISING, other_wrong, wrong), other_wrong),
            (lambda: places(RISING, wrong, "a"), wrong),
        ):
            with self.assertRaises(NotSorted) as caught:
                call()
            self.assertIs(caught.exception.words, expected)

    def test_sorted_for_one_comparison_and_not_for_another_one(self):
        for words_read in (("b", "a"), ("ab", "b", "aa")):
            self.assert_exactly(outcome(places, RISING, words_read, ""), ("NotSorted", {"words": words_read}))
        self.assert_exactly(places(SHORT, ("b", "a"), ""), (0, 0))
        self.assert_exactly(places(turned(RISING), ("b", "a"), "a"), (1, 2))

    def test_whether_sorted_raises_nothing(self):
        for comp in (NO_SELF, NO_TURN, NO_CHAIN, PLAIN):
            for words_read in ((), ("aa", "a", ""), ("", "a", "aa")):
                self.assertIn(is_sorted(comp, words_read), (True, False))
                self.assertIn(all_sorted(comp, words_read), (True, False))


if __name__ == "__main__":
    unittest.main()
