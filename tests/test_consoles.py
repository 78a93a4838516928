"""Point [14]: Console of surelyorders/consoles.py, its commands and their answers."""

import inspect
import random
import re
import unittest

from surelyorders.benches import Bench, OrderBench
from surelyorders.bounds import MAX_EDITS, MAX_LIST, MAX_STATES
from surelyorders.consoles import Console
from surelyorders.makings import by_length, by_ranks
from surelyorders.texts import comp_text
from tests.plain import NEVER, NO_CHAIN, NO_SELF, NO_TURN, PLAIN, ExactCase, outcome, random_order, some_comp
from tests.plain_bench import any_values, view_of

UNKNOWN = "unknown command"

# The commands, from their words in the document.
NUMBER = r"(0|-?[1-9][0-9]{0,39})"
SIGNS = r"([abc.]{2})"
WORD = r"(-|[abc]{1,400})"
FORMS = {
    "link": f"link {NUMBER} {SIGNS} {NUMBER}",
    "say": f"say {NUMBER} {NUMBER}",
    "grow": f"grow {NUMBER}",
    "drop": f"drop {NUMBER}",
    "turn": "turn",
    "undo": "undo",
    "redo": "redo",
    "text": "text",
    "tells": f"tells {WORD} {WORD}",
    "sort": f"sort {WORD}( {WORD})*",
    "fault": "fault",
}

# One line for each command, all of whose values are right for PLAIN.
LINES = (
    "link 0 a. 1", "say 0 0", "grow 0", "drop 1", "turn", "undo", "redo", "text", "tells a -",
    "sort aa - a", "fault",
)


def read_value(text):
    """The value for which a part of a command stands."""
    if re.fullmatch(NUMBER, text):
        return int(text)
    return "" if text == "-" else text


def show(words):
    return " ".join(["-" if word == "" else word for word in words])


def expected_answer(bench, line):
    """The answer to the line, by the methods of a twin of the console's bench."""
    found = [name for name, form in FORMS.items() if type(line) is str and re.fullmatch(form, line)]
    if not found:
        return UNKNOWN
    name, *texts = line.split(" ")
    values = [read_value(text) for text in texts]
    if name == "text":
        return comp_text(bench.comp).replace("\n", " | ")
    if name in ("tells", "sort", "fault"):
        # Signs such as ".." stand for themselves, and so do words.
        call = {"tells": bench.tells, "sort": bench.sorted_by, "fault": bench.first_fault}[name]
        result = outcome(call, *([tuple(values)] if name == "sort" else values))
    else:
        result = outcome(getattr(bench, name), *values)
    if result[0] != "returned":
        return "error " + result[0]
    if name == "tells":
        return {-1: "less", 0: "same", 1: "more"}[result[1]]
    if name == "sort":
        return show(result[1])
    if name == "fault":
        fault = result[1]
        return "none" if fault is None else show([fault] if type(fault) is str else fault)
    return f"ok {result[1]}"


class ExampleTest(ExactCase):
    def test_last_example_of_section_7(self):
        console = Console(Bench((1, ((0, 1, 2), (1, 1, 1), (2, 2, 2)), (0, 1, -1))))
        results = [console.execute(line) for line in (
            'fault', 'tells aa -', 'sort aa - a', 'say 2 0', 'fault', 'sort a', 'drop 0',
            'link 0 .. 1', 'grow 2', 'text', 'tells b a', 'undo', 'turn', 'say 3 2', 'say 2 2',
            'tells  a a')]
        expected = (
            "['none', 'more', '- a aa', 'ok 1', '- a', 'error Faulty', 'error BadDrop', "
            "'error NoColumn', 'ok 2', 'letters a | state 0 1 2 same | state 1 1 1 more | "
            "state 2 2 2 same | state 2 2 2 same', 'error BadWord', 'ok 1', 'ok 2', "
            "'error NoState', 'error BadVerdict', 'unknown command']"
        )
        self.assertEqual(repr(results), expected)


class InterfaceTest(ExactCase):
    def test_names_and_arguments(self):
        self.assertEqual(Console.__module__, "surelyorders.consoles")
        self.assertEqual(list(inspect.signature(Console).parameters), ["bench"])
        self.assertEqual(list(inspect.signature(vars(Console)["execute"]).parameters), ["self", "line"])
        self.assert_exactly(Console(bench=Bench(PLAIN)).execute(line="turn"), "ok 1")

    def test_it_works_on_this_very_bench(self):
        for kind in (Bench, OrderBench):
            bench = kind(PLAIN)
            first, second = Console(bench), Console(bench)
            self.assert_exactly(first.execute("turn"), "ok 1")
            self.assert_exactly(bench.edits(), (("turn",),))
            self.assert_exactly(second.execute("turn"), "ok 2")
            bench.undo()
            self.assert_exactly(first.execute("grow 1"), "ok 2")
            self.assert_exactly(second.execute("redo"), "error NothingToRedo")
            self.assert_exactly(bench.edits(), (("turn",), ("grow", 1)))


class CommandsTest(ExactCase):
    def assert_answers(self, comp, answers, kind=Bench):
        console = Console(kind(comp))
        for line, answer in answers:
            self.assert_exactly(console.execute(line), answer)

    def test_edits(self):
        bench = Bench(PLAIN)
        console = Console(bench)
        for line, item in (
            ("link 0 a. 2", ("link", 0, "a.", 2)), ("link 2 .a 0", ("link", 2, ".a", 0)),
            ("say 1 -1", ("say", 1, -1)), ("say 2 1", ("say", 2, 1)), ("say 0 0", ("say", 0, 0)),
            ("grow 2", ("grow", 2)), ("drop 1", ("drop", 1)), ("turn", ("turn",)),
        ):
            version = len(bench) + 1
            self.assert_exactly(console.execute(line), f"ok {version}")
            self.assert_exactly(bench.edits()[-1], item)
        self.assert_exactly(console.execute("undo"), "ok 7")
        self.assert_exactly(console.execute("redo"), "ok 8")

    def test_errors(self):
        self.assert_answers(PLAIN, (
            ("undo", "error NothingToUndo"), ("redo", "error NothingToRedo"),
            ("link 3 aa 0", "error NoState"), ("link -1 aa 0", "error NoState"),
            ("link 0 ab 0", "error NoColumn"), ("link 0 .. 0", "error NoColumn"),
            ("link 0 aa 3", "error NoState"), ("say 9 9", "error NoState"),
            ("say 0 9", "error BadVerdict"), ("say 0 -2", "error BadVerdict"),
            ("grow 3", "error NoState"), ("drop 3", "error NoState"), ("drop 0", "error BadDrop"),
            ("tells a b", "error BadWord"), ("tells c -", "error BadWord"), ("sort a b", "error BadList"),
            ("sort" + " a" * (MAX_LIST + 1), "error BadList"), ("sort" + " -" * 500, "error BadList"),
            ("undo", "error NothingToUndo"), ("turn", "ok 1"),
        ))
        self.assert_answers(NO_TURN, (("sort a", "error Faulty"), ("sort b", "error BadList")))
        self.assert_answers(PLAIN, (("say 1 -1", "error Faulty"), ("drop 2", "error Faulty")), OrderBench)
        wide = (1, ((0, 0, 0),) * MAX_STATES, (0,) * MAX_STATES)
        self.assert_answers(wide, (("grow 0", "error TooGreat"), ("drop 39", "ok 1"), ("grow 0", "ok 2")))
        turns = [("turn", f"ok {version}") for version in range(1, MAX_EDITS + 1)]
        self.assert_answers(PLAIN, turns + [("turn", "error TooManyEdits"), ("grow 9", "error TooManyEdits")])

    def test_text(self):
        self.assert_answers(NEVER, (("text", "letters a | state 0 0 0 same"),))
        expected = "letters ab | state 0 1 2 2 0 2 1 1 same | state 1 1 1 1 1 1 1 1 less | state 2 2 2 2 2 2 2 2 more"
        self.assert_answers(by_ranks(2, (0, 1)), (("text", expected),))

    def test_tells(self):
        long = "a" * 400
        self.assert_answers(PLAIN, (
            ("tells - -", "same"), ("tells a -", "more"), ("tells - a", "less"),
            ("tells a aa", "less"), (f"tells {long} {long}", "same"), (f"tells {long} a", "more"),
            (f"tells {long}a a", UNKNOWN), (f"tells a {long}a", UNKNOWN), ("tells b -", "error BadWord"),
        ))

    def test_sort(self):
        self.assert_answers(by_length(3), (
            ("sort -", "-"), ("sort a", "a"), ("sort - -", "- -"), ("sort cc - b a bc", "- b a cc bc"),
            ("sort" + " a" * MAX_LIST, " ".join(["a"] * MAX_LIST)),
            ("sort " + "c" * 400, "c" * 400), ("sort " + "c" * 401, UNKNOWN), ("sort", UNKNOWN),
        ))

    def test_fault(self):
        for comp, answer in (
            (PLAIN, "none"), (NO_SELF, "-"), ((1, ((1, 0, 0), (0, 0, 0)), (0, 1)), "a"),
            (NO_TURN, "- a"), (NO_CHAIN, "aa a -"),
        ):
            self.assert_answers(comp, (("fault", answer),))

    def test_numbers_of_many_digits(self):
        nines = "9" * 40
        self.assert_answers(PLAIN, (
            (f"grow {nines}", "error NoState"), (f"grow -{nines}", "error NoState"),
            (f"say 0 {nines}", "error BadVerdict"), (f"say 0 -{nines}", "error BadVerdict"),
            (f"link 0 aa {nines}", "error NoState"),
            (f"grow {nines}9", UNKNOWN), (f"grow -{nines}9", UNKNOWN), (f"say 0 {nines}9", UNKNOWN),
        ))


class UnknownTest(ExactCase):
    def assert_unknown(self, value):
        bench = Bench(PLAIN)
        bench.turn()
        bench.turn()
        bench.undo()
        before = view_of(bench)
        self.assert_exactly(Console(bench).execute(value), UNKNOWN)
        self.assertEqual(repr(view_of(bench)), repr(before))
        self.assert_exactly(bench.redo(), 2)

    def test_values_that_are_no_texts(self):
        for value in [value for value in any_values() if value != "turn"] + [
            ("turn",), ["turn"], {"turn": 1}, [["fault"]], ("text", "a"), PLAIN, ("undo", "redo") * 1000,
        ]:
            self.assert_unknown(value)

    def test_spaces(self):
        for line in LINES:
            for wrong in (" " + line, line + " ", "  " + line, line + "  ", line + "\n", "\n" + line,
                          line + "\t", line + "\r", line.replace(" ", "  "), line.replace(" ", "\t"),
                          line.replace(" ", "\n"), line.replace(" ", "")):
                if wrong != line:
                    self.assert_unknown(wrong)

    def test_other_words(self):
        for line in ("", " ", "\n", "-", "a", "help", "Turn", "TURN", "turn.", "turns", "behind", "ahead",
                     "attempt", "edits", "len", "str", "comp", "quit", "say say", "0", "sorted_by a",
                     "first_fault", "comp_at 0", "turn\nturn", "link", "x" * 3500, "ok 1", UNKNOWN):
            self.assert_unknown(line)

    def test_too_many_and_too_few_values(self):
        for line in LINES:
            if not line.startswith("sort"):
                for more in (" 0", " a", " -", " aa"):
                    self.assert_unknown(line + more)
            if " " in line and not line.startswith("sort"):
                self.assert_unknown(line.rpartition(" ")[0])
            self.assert_unknown("turn " + line)

    def test_numbers(self):
        for number in ("-0", "00", "01", "-01", "+1", "--1", "1-", "-", "", "a", "1.0", "0x1", "1_0", "1e3",
                       "\u0661", "\u00b2", "1" * 41, "-" + "1" * 41, "0" * 41, "one", "True", "None", "."):
            for line in (f"link {number} aa 0", f"link 0 aa {number}", f"say {number} 0",
                         f"say 0 {number}", f"grow {number}", f"drop {number}"):
                self.assert_unknown(line)

    def test_signs(self):
        for signs in ("a", ".", "", "aaa", "aa.", "ad", "da", "AA", "a-", "-", "--", "...", "a|", "0", "10"):
            self.assert_unknown(f"link 0 {signs} 0")

    def test_words(self):
        for word in ("d", "A", "a.", ".", "--", "-a", "a-", "", "0", "ab,c", "a" * 401, "abcd", "''", "None"):
            for line in (f"tells {word} a", f"tells a {word}", f"sort {word}", f"sort a {word}",
                         f"sort {word} a"):
                self.assert_unknown(line)


class RandomRunTest(ExactCase):
    PARTS = (
        "link", "say", "grow", "drop", "turn", "undo", "redo", "text", "tells", "sort", "fault", "0", "1",
        "2", "-1", "-0", "9", "01", "aa", "ab", "a.", ".b", "..", "a", "b", "-", "abab", "", "c", "10",
    )

    def random_line(self, chance):
        """A line; mostly a command."""
        name = chance.choice(sorted(FORMS))
        if chance.random() < 0.1:
            return " ".join([chance.choice(self.PARTS) for _ in range(chance.randrange(5))])
        parts = [name]
        for mark in {"link": "NSN", "say": "NV", "grow": "N", "drop": "N", "tells": "WW",
                     "sort": "W" * chance.randrange(1, 6)}.get(name, ""):
            parts.append({
                "N": str(chance.choice((0, 0, 1, 1, 2, 3, -1))), "V": str(chance.choice((-1, 0, 1, 2))),
                "S": chance.choice("ab.") + chance.choice("ab."),
                "W": chance.choice(("-", "a", "b", "ab", "ba", "bb", "aab", "abc")),
            }[mark])
        line = " ".join(parts)
        if chance.random() < 0.1:
            at = chance.randrange(len(line))
            line = line[:at] + chance.choice(" -0ab.") + line[at:]
        return line

    def test_runs(self):
        chance = random.Random(141)
        starts = set()
        for run in range(40):
            kind = OrderBench if run % 4 == 0 else Bench
            letters = chance.choice((1, 2, 2))
            first = random_order(chance, letters, 1) if kind is OrderBench else some_comp(chance, letters, 4)
            bench, twin = kind(first), kind(first)
            console = Console(bench)
            for _ in range(60):
                line = self.random_line(chance)
                answer = console.execute(line)
                self.assert_exactly(answer, expected_answer(twin, line))
                starts.add(answer.split(" ")[0] if not answer.startswith("error") else answer)
            self.assertEqual(repr(view_of(bench)), repr(view_of(twin)))
        for start in ("ok", "error NoState", "error NoColumn", "error BadVerdict", "error BadDrop",
                      "error NothingToUndo", "error NothingToRedo", "error BadWord", "error BadList",
                      "error Faulty", "none", "less", "same", "more", "letters", "unknown"):
            self.assertIn(start, starts)


if __name__ == "__main__":
    unittest.main()
