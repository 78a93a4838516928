"""Point [4]: comp_error, columns and tells of surelyorders/comps.py."""

import copy
import inspect
import itertools
import random
import unittest

from surelyorders import comps
from surelyorders.bounds import MAX_LETTERS, MAX_STATES
from surelyorders.comps import columns, comp_error, tells
from tests.plain import COLUMNS, PLAIN, ExactCase, random_comp, told, words


def made(letters, states):
    """A comparison with that many letters and states, whose items and verdicts are unlike."""
    width = len(COLUMNS[letters])
    rows = [
        tuple([(state * 5 + place * 3 + 1) % states for place in range(width)])
        for state in range(states)
    ]
    return (letters, tuple(rows), tuple([state % 3 - 1 for state in range(states)]))


def nested(levels, kind):
    value = kind()
    for _ in range(levels):
        value = kind([value])
    return value


def with_part(comp, at, value):
    return comp[:at] + (value,) + comp[at + 1:]


def with_row(comp, state, row):
    rows = comp[1]
    return with_part(comp, 1, rows[:state] + (row,) + rows[state + 1:])


def with_item(comp, state, place, item):
    row = comp[1][state]
    return with_row(comp, state, row[:place] + (item,) + row[place + 1:])


def not_integers():
    """Values of every kind but integers; several of them are equal to integers for Python."""
    return [
        None, True, False, "", "0", "1", "a", (), (0,), (1,), [], [1], {}, {1: 1},
        nested(20, tuple), nested(20, list), {"a": {"b": [(), None]}},
    ]


def not_tuples():
    """Values of every kind but tuples."""
    return [
        None, True, False, 0, 1, 3, -1, 10 ** 59, "", "abc", "letters a\nstate 0 0 0 same",
        [], [1], [0, 1, 2], {}, {0: 0, 1: 1, 2: 2}, nested(20, list), [nested(19, tuple)],
    ]


class ExampleTest(ExactCase):
    def test_example_of_section_1(self):
        results = [
            comp_error(PLAIN),
            comp_error((1, ((0, 1, 1), (1, 1, 3)), (0, 1))),
            columns(1),
            tells(PLAIN, "aa", "a"),
            tells(PLAIN, "a", "aaa"),
            tells(PLAIN, "", ""),
        ]
        self.assertEqual(repr(results), "[None, (1, 'row'), ('aa', 'a.', '.a'), 1, -1, 0]")


class InterfaceTest(ExactCase):
    def test_names_and_arguments(self):
        for function, names in (
            (comp_error, ["value"]), (columns, ["letters"]), (tells, ["comp", "one", "other"]),
        ):
            self.assertEqual(list(inspect.signature(function).parameters), names)
            self.assertEqual(function.__module__, "surelyorders.comps")
            self.assertTrue(inspect.isfunction(getattr(comps, function.__name__)))

    def test_arguments_by_name(self):
        self.assert_exactly(comp_error(value=PLAIN), None)
        self.assert_exactly(comp_error(value=()), (None, "comp"))
        self.assert_exactly(columns(letters=1), ("aa", "a.", ".a"))
        self.assert_exactly(tells(comp=PLAIN, one="aa", other="a"), 1)
        self.assert_exactly(tells(other="aa", one="a", comp=PLAIN), -1)
        self.assert_exactly(tells(PLAIN, "a", other="aa"), -1)


class CompErrorTest(ExactCase):
    def test_comparisons(self):
        for letters in range(1, MAX_LETTERS + 1):
            for states in (1, 2, 3, 8, MAX_STATES - 1, MAX_STATES, MAX_STATES + 1, 1600):
                with self.subTest(letters=letters, states=states):
                    self.assert_exactly(comp_error(made(letters, states)), None)

    def test_one_state(self):
        for letters in (1, 2, 3):
            row = (0,) * len(COLUMNS[letters])
            for verdict in (-1, 0, 1):
                self.assert_exactly(comp_error((letters, (row,), (verdict,))), None)

    def test_not_a_tuple(self):
        for value in not_tuples() + [list(PLAIN), {0: PLAIN}, [PLAIN]]:
            with self.subTest(value=value):
                self.assert_exactly(comp_error(value), (None, "comp"))

    def test_not_three(self):
        for value in ((), (1,), PLAIN[:2], PLAIN + (0,), PLAIN + PLAIN, PLAIN[1:], (PLAIN,),
                      nested(20, tuple)):
            with self.subTest(value=value):
                self.assert_exactly(comp_error(value), (None, "comp"))

    def test_letters(self):
        for letters in not_integers() + [0, 4, 5, -1, 10 ** 60 - 1, -(10 ** 59)]:
            with self.subTest(letters=letters):
                self.assert_exactly(comp_error(with_part(PLAIN, 0, letters)), (None, "letters"))

    def test_letters_of_a_comparison_with_four(self):
        row = (0,) * 24
        self.assert_exactly(comp_error((4, (row,), (0,))), (None, "letters"))
        self.assert_exactly(comp_error((0, ((),), (0,))), (None, "letters"))

    def test_rows(self):
        for rows in not_tuples() + [(), [(0, 0, 0)], list(PLAIN[1])]:
            with self.subTest(rows=rows):
                self.assert_exactly(comp_error(with_part(PLAIN, 1, rows)), (None, "rows"))

    def test_no_rows_and_no_verdicts(self):
        self.assert_exactly(comp_error((1, (), ())), (None, "rows"))

    def test_row_of_another_kind(self):
        for state in range(3):
            for row in not_tuples() + [(), list(PLAIN[1][state])]:
                with self.subTest(state=state, row=row):
                    self.assert_exactly(comp_error(with_row(PLAIN, state, row)), (state, "row"))

    def test_row_too_short_or_too_long(self):
        for letters in (1, 2, 3):
            comp = made(letters, 4)
            width = len(COLUMNS[letters])
            for state in range(4):
                for length in (0, 1, width - 1, width + 1, width + 2, 2 * width, 6000):
                    found = comp_error(with_row(comp, state, (0,) * length))
                    self.assert_exactly(found, (state, "row"))

    def test_rows_of_another_number_of_letters(self):
        for letters, other in itertools.permutations((1, 2, 3), 2):
            self.assert_exactly(comp_error(with_part(made(letters, 2), 0, other)), (0, "row"))

    def test_item_at_every_place(self):
        for letters in (1, 2, 3):
            comp = made(letters, 3)
            for state in range(3):
                for place in range(len(COLUMNS[letters])):
                    for item in (-1, 3, 4, 10 ** 59, -(10 ** 59)):
                        found = comp_error(with_item(comp, state, place, item))
                        self.assert_exactly(found, (state, "row"))
                    for item in (0, 2):
                        found = comp_error(with_item(comp, state, place, item))
                        self.assert_exactly(found, None)

    def test_item_of_another_kind(self):
        for state in range(3):
            for place in range(3):
                for item in not_integers():
                    with self.subTest(state=state, place=place, item=item):
                        found = comp_error(with_item(PLAIN, state, place, item))
                        self.assert_exactly(found, (state, "row"))

    def test_the_last_state_is_there_and_the_next_is_not(self):
        for states in (1, 2, MAX_STATES, MAX_STATES + 1, 1600):
            comp = made(1, states)
            last = states - 1
            self.assert_exactly(comp_error(with_item(comp, last, 2, last)), None)
            self.assert_exactly(comp_error(with_item(comp, last, 2, states)), (last, "row"))

    def test_the_first_wrong_row(self):
        comp = made(2, 6)
        for first in range(6):
            for second in range(first + 1, 6):
                wrong = with_item(with_row(comp, second, None), first, 7, 6)
                self.assert_exactly(comp_error(wrong), (first, "row"))
                wrong = with_row(with_item(comp, second, 0, True), first, ())
                self.assert_exactly(comp_error(wrong), (first, "row"))
        self.assert_exactly(comp_error((2, (None,) * 6, comp[2])), (0, "row"))

    def test_verdicts(self):
        for verdicts in not_tuples() + [(), (0,), (0, 1), (0, 1, -1, 0), list(PLAIN[2])]:
            with self.subTest(verdicts=verdicts):
                found = comp_error(with_part(PLAIN, 2, verdicts))
                self.assert_exactly(found, (None, "verdicts"))

    def test_verdict_at_every_place(self):
        for place in range(3):
            for verdict in not_integers() + [-2, 2, 3, 10 ** 60 - 1, -(10 ** 59)]:
                with self.subTest(place=place, verdict=verdict):
                    verdicts = with_part(PLAIN[2], place, verdict)
                    found = comp_error(with_part(PLAIN, 2, verdicts))
                    self.assert_exactly(found, (None, "verdicts"))

    def test_as_many_verdicts_as_states(self):
        for states in (1, 2, MAX_STATES, MAX_STATES + 1, 1600):
            comp = made(3, states)
            for verdicts in (comp[2][:-1], comp[2] + (0,)):
                found = comp_error(with_part(comp, 2, verdicts))
                self.assert_exactly(found, (None, "verdicts"))

    def test_the_order_of_the_parts(self):
        wrong_parts = (
            (True, 0, 4, None, (1,)),
            (None, (), [], list(PLAIN[1]), "abc"),
            (((0, 1, 2), (1, 1, 3), None), ((0, 1, 2), (1, 1), (2, 2)), (PLAIN[1][0], 1, 1)),
            ((), None, [0, 1, -1], (0, 1, True), (0, 1, -1, 0)),
        )
        for letters in (PLAIN[0],) + wrong_parts[0]:
            for rows in (PLAIN[1],) + wrong_parts[1] + wrong_parts[2]:
                for verdicts in (PLAIN[2],) + wrong_parts[3]:
                    if letters is not PLAIN[0]:
                        expected = (None, "letters")
                    elif rows in wrong_parts[1]:
                        expected = (None, "rows")
                    elif rows in wrong_parts[2]:
                        expected = (1, "row")
                    elif verdicts is not PLAIN[2]:
                        expected = (None, "verdicts")
                    else:
                        expected = None
                    with self.subTest(letters=letters, rows=rows, verdicts=verdicts):
                        self.assert_exactly(comp_error((letters, rows, verdicts)), expected)
                        found = comp_error([letters, rows, verdicts])
                        self.assert_exactly(found, (None, "comp"))
                        found = comp_error((letters, rows, verdicts, None))
                        self.assert_exactly(found, (None, "comp"))

    def test_deep_values_in_each_part(self):
        for deep in (nested(18, tuple), nested(18, list)):
            self.assert_exactly(comp_error((deep, deep, deep)), (None, "letters"))
            rows = (None, "rows") if isinstance(deep, list) else (0, "row")
            self.assert_exactly(comp_error((1, deep, deep)), rows)
            self.assert_exactly(comp_error((1, PLAIN[1][:2] + (deep,), deep)), (2, "row"))
            self.assert_exactly(comp_error((1, PLAIN[1], deep)), (None, "verdicts"))

    def test_the_argument_is_not_changed(self):
        for value in ([1, [[0, 0, 0]], [0]], {"a": [PLAIN]}, (1, [[0, 0, 0]], [0]),
                      (1, ([0, 0, 0],), [0]), (1, ((0, 0, 0),), [0]), (1, ((0, 0, {}),), (0,))):
            kept = copy.deepcopy(value)
            comp_error(value)
            self.assertEqual(repr(value), repr(kept))

    def test_nothing_is_kept_between_calls(self):
        verdicts = [0, 1, -1]
        found = comp_error((1, PLAIN[1], verdicts))
        verdicts.append(0)
        self.assert_exactly(found, (None, "verdicts"))
        for value, expected in ((PLAIN, None), ((), (None, "comp")), (PLAIN, None)):
            self.assert_exactly(comp_error(value), expected)


class ColumnsTest(ExactCase):
    def test_each_number_of_letters(self):
        for letters, expected in COLUMNS.items():
            self.assert_exactly(columns(letters), expected)

    def test_nothing_is_kept_between_calls(self):
        for letters in (3, 1, 2, 3, 1):
            self.assert_exactly(columns(letters), COLUMNS[letters])


class TellsTest(ExactCase):
    def test_both_words_empty(self):
        for letters in (1, 2, 3):
            for verdict in (-1, 0, 1):
                rows = ((1,) * len(COLUMNS[letters]),) * 2
                comp = (letters, rows, (verdict, (verdict + 2) % 3 - 1))
                self.assert_exactly(tells(comp, "", ""), verdict)

    def test_one_word_empty(self):
        self.assert_exactly(tells(PLAIN, "a", ""), 1)
        self.assert_exactly(tells(PLAIN, "", "a"), -1)
        self.assert_exactly(tells(PLAIN, "aaa", ""), 1)
        self.assert_exactly(tells(PLAIN, "", "aaa"), -1)

    def test_each_column_reads_its_own_item(self):
        for letters, names in COLUMNS.items():
            states = len(names) + 1
            sinks = tuple([(state,) * len(names) for state in range(1, states)])
            rows = (tuple(range(1, states)),) + sinks
            for wanted in range(len(names)):
                for verdict in (-1, 1):
                    verdicts = (0,) * (wanted + 1) + (verdict,) + (0,) * (states - wanted - 2)
                    comp = (letters, rows, verdicts)
                    self.assert_exactly(comp_error(comp), None)
                    for place, column in enumerate(names):
                        one, other = column[0].strip("."), column[1].strip(".")
                        expected = verdict if place == wanted else 0
                        self.assert_exactly(tells(comp, one, other), expected)

    def test_against_the_document_for_all_short_words(self):
        chance = random.Random(4)
        for letters, states, longest in ((1, 1, 6), (1, 3, 12), (2, 1, 3), (2, 2, 4), (2, 7, 4),
                                         (3, 2, 3), (3, 5, 3), (3, 16, 2), (3, MAX_STATES, 3)):
            comp = random_comp(chance, letters, states)
            for one in words(letters, longest):
                for other in words(letters, longest):
                    self.assert_exactly(tells(comp, one, other), told(comp, one, other))

    def test_against_the_document_for_longer_words(self):
        chance = random.Random(5)
        for _ in range(300):
            letters = chance.randrange(1, 4)
            comp = random_comp(chance, letters, chance.randrange(1, MAX_STATES + 1))
            one, other = [
                "".join([chance.choice("abc"[:letters]) for _ in range(chance.randrange(60))])
                for _ in range(2)
            ]
            self.assert_exactly(tells(comp, one, other), told(comp, one, other))
            self.assert_exactly(tells(comp, other, one), told(comp, other, one))
            self.assert_exactly(tells(comp, one, one), told(comp, one, one))

    def test_long_words(self):
        many = 200000
        # States 0 and 1 count the places by twos; the verdict tells whether they are even.
        even = (1, ((1, 1, 1), (0, 0, 0)), (-1, 1))
        for one, other in ((many, many), (many, 0), (0, many), (many, many - 1), (5, many)):
            self.assert_exactly(tells(even, "a" * one, "a" * other), -1)
            longer = max(one, other) + 1
            self.assert_exactly(tells(even, "a" * longer, "a" * other), 1)
        self.assert_exactly(tells(PLAIN, "a" * many, "a" * many), 0)
        self.assert_exactly(tells(PLAIN, "a" * (many + 1), "a" * many), 1)
        self.assert_exactly(tells(PLAIN, "a" * many, "a" * (many + 1)), -1)

    def test_the_last_place_of_long_words(self):
        # 0 while the letters are alike, 1 and 2 behind the first unlike ones, first less or greater.
        ranked = (2, ((0, 1, 2, 2, 0, 2, 1, 1), (1,) * 8, (2,) * 8), (0, -1, 1))
        head = "ab" * 50000
        self.assert_exactly(tells(ranked, head + "a", head + "b"), -1)
        self.assert_exactly(tells(ranked, head + "b", head + "a"), 1)
        self.assert_exactly(tells(ranked, head + "b", head + "b"), 0)

    def test_more_states_than_are_handed_over_elsewhere(self):
        comp = random_comp(random.Random(6), 3, 1600)
        for one, other in (("", ""), ("abcab", "cc"), ("c", "abcabc"), ("abccba", "cbaabc")):
            self.assert_exactly(tells(comp, one, other), told(comp, one, other))

    def test_nothing_is_kept_between_calls(self):
        contrary = with_part(PLAIN, 2, (0, -1, 1))
        for comp, expected in ((PLAIN, 1), (contrary, -1), (PLAIN, 1)):
            self.assert_exactly(tells(comp, "aa", "a"), expected)


if __name__ == "__main__":
    unittest.main()
