"""Point [10]: comp_text and parse_comp of surelyorders/texts.py."""

import inspect
import random
import re
import unittest

from surelyorders import texts
from surelyorders.comps import comp_error
from surelyorders.errors import BadComp, BadText
from surelyorders.makings import by_ranks, then
from surelyorders.texts import comp_text, parse_comp
from tests.plain import COLUMNS, NEVER, PLAIN, ExactCase, outcome, random_comp

HEAD = re.compile(r"letters (a|ab|abc)")
STATE = re.compile(r"state(?: (?:0|[1-9][0-9]{0,8}))+ (?:less|same|more)")

PLAIN_TEXT = "letters a\nstate 0 1 2 same\nstate 1 1 1 more\nstate 2 2 2 less"


def read(value):
    """What parse_comp comes to, from its words in the document."""
    if type(value) is not str:
        return ("BadText", {"line": None})
    lines = value.split("\n")
    for index, line in enumerate(lines):
        form = HEAD if index == 0 else STATE
        if form.fullmatch(line) is None:
            return ("BadText", {"line": index})
    if len(lines) == 1:
        return ("BadText", {"line": 1})
    numbers = [tuple([int(text) for text in line.split()[1:-1]]) for line in lines[1:]]
    verdicts = [{"less": -1, "same": 0, "more": 1}[line.split()[-1]] for line in lines[1:]]
    comp = (len(lines[0]) - len("letters "), tuple(numbers), tuple(verdicts))
    error = comp_error(comp)
    return ("returned", comp) if error is None else ("BadComp", {"error": error})


def written(comp):
    """The text of a comparison, from its words in the document."""
    letters, rows, verdicts = comp
    text = "letters " + "abc"[:letters]
    for row, verdict in zip(rows, verdicts):
        text += "\nstate"
        for item in row:
            text += " " + str(item)
        text += {-1: " less", 0: " same", 1: " more"}[verdict]
    return text


def changed_text(chance, text):
    """The text with one sign put in, left out or replaced, or cut off."""
    at = chance.randrange(len(text) + 1)
    sign = chance.choice(" \n-0123456789abclmst.+")
    return chance.choice((
        text[:at] + sign + text[at:], text[:at] + text[at + 1:], text[:at] + sign + text[at + 1:],
        text[:at], text[at:],
    ))


def changed_lines(chance, text):
    """The text with lines left out, doubled, exchanged, or cut off."""
    lines = text.split("\n")
    at, other = chance.randrange(len(lines)), chance.randrange(len(lines))
    way = chance.randrange(5)
    if way == 0:
        del lines[at]
    elif way == 1:
        lines.insert(other, lines[at])
    elif way == 2:
        lines[at], lines[other] = lines[other], lines[at]
    elif way == 3:
        lines = lines[:at]
    else:
        lines.insert(at, "")
    return "\n".join(lines)


class ExampleTest(ExactCase):
    def test_first_example_of_section_6(self):
        results = [comp_text(PLAIN), parse_comp(comp_text(PLAIN)) == PLAIN]
        expected = (
            "['letters a\\nstate 0 1 2 same\\nstate 1 1 1 more\\nstate 2 2 2 less', True]"
        )
        self.assertEqual(repr(results), expected)

    def test_a_state_must_follow(self):
        with self.assertRaises(BadText) as caught:
            parse_comp('letters a')
        self.assert_exactly(caught.exception.line, 1)

    def test_no_such_verdict(self):
        with self.assertRaises(BadText) as caught:
            parse_comp('letters a\nstate 0 0 0 same\nstate 0 0 0 equal')
        self.assert_exactly(caught.exception.line, 2)

    def test_no_such_state(self):
        with self.assertRaises(BadComp) as caught:
            parse_comp('letters a\nstate 0 0 1 same')
        self.assert_exactly(caught.exception.error, (0, 'row'))


class InterfaceTest(ExactCase):
    def test_names_and_arguments(self):
        for function, names in ((comp_text, ["comp"]), (parse_comp, ["value"])):
            self.assertEqual(list(inspect.signature(function).parameters), names)
            self.assertEqual(function.__module__, "surelyorders.texts")
            self.assertTrue(inspect.isfunction(getattr(texts, function.__name__)))

    def test_arguments_by_name(self):
        self.assert_exactly(comp_text(comp=PLAIN), PLAIN_TEXT)
        self.assert_exactly(parse_comp(value=PLAIN_TEXT), PLAIN)


class RoundTest(ExactCase):
    def assert_read_back(self, comp):
        text = self.checked(comp_text, comp)
        self.assert_exactly(text, written(comp))
        self.assert_exactly(self.checked(parse_comp, text), comp)

    def test_written_out(self):
        self.assert_exactly(comp_text(NEVER), "letters a\nstate 0 0 0 same")
        row = " ".join(["0"] * 15)
        self.assert_exactly(comp_text((3, ((0,) * 15,), (-1,))), f"letters abc\nstate {row} less")
        self.assert_exactly(comp_text((2, ((0,) * 8,), (1,))), "letters ab\nstate 0 0 0 0 0 0 0 0 more")

    def test_any_comparisons(self):
        chance = random.Random(101)
        for letters in (1, 2, 3):
            for states in (1, 2, 3, 9, 10, 11, 40, 101):
                self.assert_read_back(random_comp(chance, letters, states))

    def test_more_states_than_are_handed_over(self):
        chance = random.Random(102)
        one, other = random_comp(chance, 2, 40), random_comp(chance, 2, 40)
        made = then(one, other)
        self.assertGreater(len(made[1]), 1000)
        self.assert_read_back(made)
        self.assert_read_back(by_ranks(3, (2, 0, 1)))


class BadTextTest(ExactCase):
    def assert_bad(self, value, line):
        name, fields = outcome(parse_comp, value)
        self.assertEqual((name, list(fields)), ("BadText", ["line"]))
        self.assert_exactly(fields["line"], line)
        self.assertEqual(read(value), ("BadText", {"line": line}))

    def test_not_a_text(self):
        for value in (None, True, False, 0, 1, 10 ** 59, (), (PLAIN_TEXT,), [], [PLAIN_TEXT], {},
                      {0: PLAIN_TEXT}, PLAIN, tuple(PLAIN_TEXT.split("\n"))):
            self.assert_bad(value, None)

    def test_first_lines(self):
        for line in ("", " ", "letters", "letters ", "letters  a", "letters a ", " letters a",
                     "Letters a", "letter a", "letters b", "letters ba", "letters aa",
                     "letters abcd", "letters a b", "letters 1", "state 0 0 0 same", "letters ac"):
            self.assert_bad(line, 0)
            self.assert_bad(line + "\nstate 0 0 0 same", 0)
            self.assert_bad("\n" + line, 0)

    def test_a_line_must_follow(self):
        for line in ("letters a", "letters ab", "letters abc"):
            self.assert_bad(line, 1)
            # The line that follows is empty, and so is no line of a state.
            self.assert_bad(line + "\n", 1)
            self.assert_bad(line + "\n\nstate 0 0 0 same", 1)

    def test_state_lines(self):
        for line in ("", " ", "state", "state ", "state same", "state  same", "state 0", "state 0 0 0",
                     "state 0 0 0 ", "state 0 0 0 equal", "state 0 0 0 Same", "state 0 0 0 1",
                     "state 0 0 0 same ", " state 0 0 0 same", "state  0 0 0 same",
                     "state 0  0 0 same", "state 0 0 0  same", "states 0 0 0 same", "0 0 0 same",
                     "state 00 0 0 same", "state 01 0 0 same", "state +0 0 0 same",
                     "state -0 0 0 same", "state -1 0 0 same", "state 1234567890 0 0 same",
                     "state 0000000000 0 0 same", "state 0 0 0 same less", "state 0 same 0 same",
                     "state 0x0 0 0 same", "state 1_0 0 0 same", "state 0. 0 0 same",
                     "state a 0 0 same", "letters a", "state 0,0,0 same"):
            self.assert_bad("letters a\n" + line, 1)
            self.assert_bad("letters a\n" + line + "\nstate 0 0 0 same", 1)
            self.assert_bad("letters a\nstate 0 0 0 same\n" + line, 2)
            self.assert_bad(PLAIN_TEXT + "\n" + line, 4)

    def test_the_first_line_that_is_wrong(self):
        self.assert_bad("letters d\nstate x", 0)
        self.assert_bad("letters a\nstate x\nstate y", 1)
        self.assert_bad("letters a\nstate 5 same\nstate y", 2)
        self.assert_bad(PLAIN_TEXT + "\n", 4)
        self.assert_bad(PLAIN_TEXT + "\n\n", 4)
        self.assert_bad("\n" + PLAIN_TEXT, 0)
        self.assert_bad(PLAIN_TEXT + " ", 3)

    def test_other_ends_of_lines(self):
        # Only a line feed parts lines: what else Python takes for an end of a line is none.
        self.assert_bad(PLAIN_TEXT.replace("\n", "\r\n"), 0)
        self.assert_bad(PLAIN_TEXT.replace("\n", "\r"), 0)
        self.assert_bad("letters a\x0bstate 0 0 0 same", 0)

    def test_digits_of_other_scripts(self):
        self.assert_bad("letters a\nstate 0 0 \u0660 same", 1)
        self.assert_bad("letters a\nstate 0 0 \u00b2 same", 1)


class BadCompTest(ExactCase):
    def assert_bad(self, value, error):
        name, fields = outcome(parse_comp, value)
        self.assertEqual((name, list(fields)), ("BadComp", ["error"]))
        self.assert_exactly(fields["error"], error)
        self.assertEqual(read(value), ("BadComp", {"error": error}))

    def test_rows(self):
        self.assert_bad("letters a\nstate 0 same", (0, "row"))
        self.assert_bad("letters a\nstate 0 0 0 0 same", (0, "row"))
        self.assert_bad("letters ab\nstate 0 0 0 same", (0, "row"))
        self.assert_bad("letters a\nstate 0 0 999999999 same", (0, "row"))
        self.assert_bad("letters a\nstate 0 1 0 same\nstate 0 2 0 same", (1, "row"))
        self.assert_bad("letters a\nstate 0 1 0 same\nstate 0 same\nstate 7 7 7 more", (1, "row"))
        row = " ".join(["0"] * 15)
        self.assert_bad(f"letters abc\nstate {row} same\nstate {row} 0 same", (1, "row"))

    def test_a_wrong_line_comes_first(self):
        self.assertEqual(read("letters a\nstate 9 same\nstate"), ("BadText", {"line": 2}))
        self.assert_exactly(outcome(parse_comp, "letters a\nstate 9 same\nstate"), ("BadText", {"line": 2}))


class ChangedTest(ExactCase):
    def test_every_beginning(self):
        for end in range(len(PLAIN_TEXT) + 1):
            text = PLAIN_TEXT[:end]
            self.assertEqual(repr(outcome(parse_comp, text)), repr(read(text)), text)

    def test_changed_texts(self):
        chance = random.Random(103)
        names = {}
        for _ in range(4000):
            text = written(random_comp(chance, chance.randrange(1, 4), chance.randrange(1, 5)))
            for _ in range(chance.randrange(1, 3)):
                change = chance.choice((changed_text, changed_lines))
                text = change(chance, text)
            expected = read(text)
            names[expected[0]] = names.get(expected[0], 0) + 1
            self.assertEqual(repr(outcome(parse_comp, text)), repr(expected), text)
        self.assertEqual(sorted(names), ["BadComp", "BadText", "returned"])
        self.assertGreater(min(names.values()), 100)

    def test_wide_lines(self):
        # Lines of too many and too few numbers, of states that are not there, still are lines.
        chance = random.Random(104)
        for _ in range(500):
            lines = ["letters " + chance.choice(("a", "ab", "abc"))]
            for _ in range(chance.randrange(0, 4)):
                width = chance.choice((1, 3, 3, 8, 15, 16))
                numbers = [str(chance.choice((0, 0, 1, 2, 10 ** 9 - 1))) for _ in range(width)]
                lines.append(" ".join(["state"] + numbers + [chance.choice(("less", "same", "more"))]))
            text = "\n".join(lines)
            self.assertEqual(repr(outcome(parse_comp, text)), repr(read(text)), text)

    def test_columns_of_the_rows(self):
        for letters, names in COLUMNS.items():
            text = "letters " + "abc"[:letters] + "\nstate" + " 0" * len(names) + " same"
            self.assert_exactly(parse_comp(text), (letters, ((0,) * len(names),), (0,)))


if __name__ == "__main__":
    unittest.main()
