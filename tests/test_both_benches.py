"""The examples of points [11] to [14], each done with a Bench and with an OrderBench.

What the document shows of one of the classes is as it stands there. What the other one answers
to the same calls is worked out by hand from the document's words: an edit that would bring a
comparison that is no order is done by a Bench, and is Faulty for an OrderBench, which stays as
it was.
"""

import unittest

from surelyorders.benches import Bench, OrderBench
from surelyorders.comps import tells
from surelyorders.consoles import Console
from surelyorders.faults import is_order
from surelyorders.makings import by_length, by_ranks, then
from tests.plain import ExactCase

EXAMPLE = (1, ((0, 1, 2), (1, 1, 1), (2, 2, 2)), (0, 1, -1))
ONE_STATE = (1, ((0, 0, 0),), (0,))

# How answer below writes the error Faulty with the fault that the examples come to.
FAULTY = "Faulty('', 'a')"


def answer(call):
    """What the call returns; of an error, the name and the fault or the other field."""
    try:
        return call()
    except (ValueError, LookupError) as error:
        fields = list(vars(error).values())
        return type(error).__name__ + (repr(fields[0]) if fields else "")


class BothCase(ExactCase):
    def assert_answers(self, comp, steps):
        """Each step is a call on the bench, with the answer of a Bench and of an OrderBench."""
        for kind in (Bench, OrderBench):
            bench = kind(comp)
            for number, (call, of_bench, of_order_bench) in enumerate(steps):
                with self.subTest(kind=kind.__name__, number=number):
                    expected = of_bench if kind is Bench else of_order_bench
                    self.assert_exactly(answer(lambda: call(bench)), expected)
                    self.assertIs(type(bench), kind)
                    if kind is OrderBench:
                        self.assertTrue(is_order(bench.comp))


class ExamplesTest(BothCase):
    def test_first_example(self):
        self.assert_answers(EXAMPLE, (
            (lambda bench: bench.first_fault(), None, None),
            (lambda bench: bench.say(1, 0), 1, FAULTY),
            (lambda bench: bench.first_fault(), ("", "a"), None),
            (lambda bench: bench.say(2, 0), 2, FAULTY),
            (lambda bench: bench.first_fault(), None, None),
            (lambda bench: bench.tells("", "aa"), 0, -1),
            (lambda bench: bench.drop(2), 3, FAULTY),
            (lambda bench: bench.comp, (1, ((0, 1, 0), (1, 1, 1)), (0, 0)), EXAMPLE),
            (lambda bench: bench.undo(), 2, "NothingToUndo"),
            (lambda bench: bench.turn(), 3, 1),
        ))

    def test_second_example(self):
        grow, link, say = ("grow", 0), ("link", 0, "a.", 1), ("say", 1, 1)
        self.assert_answers(ONE_STATE, (
            (lambda bench: bench.grow(0), 1, 1),
            (lambda bench: bench.link(0, "a.", 1), 2, 2),
            (lambda bench: bench.say(1, 1), 3, FAULTY),
            (lambda bench: bench.tells("aa", "a"), 1, 0),
            (lambda bench: bench.undo(), 2, 1),
            (lambda bench: bench[1], 0, 0),
            (lambda bench: bench.redo(), 3, 2),
            (lambda bench: bench.edits(), (grow, link, say), (grow, link)),
        ))

    def test_third_example(self):
        items = [("turn",), ("say", 1, 0), ("say", 2, 0)]
        seen = []

        def watch(held):
            seen.append((held.comp[2], len(held), held.edits()))
            return held.first_fault() is not None

        self.assert_answers(EXAMPLE, (
            (lambda bench: bench.attempt(items, watch=watch), 2, FAULTY),
            (lambda bench: bench.comp[2], (0, 0, 1), (0, 1, -1)),
            (lambda bench: len(bench), 1, 0),
            (lambda bench: bench.undo(), 0, "NothingToUndo"),
            (lambda bench: bench.first_fault(), None, None),
        ))
        # Both watches see the same, which only an OrderBench takes back in the end.
        self.assert_exactly(tuple(seen), 2 * (
            ((0, -1, 1), 1, (("attempt", (("turn",),)),)),
            ((0, 0, 1), 1, (("attempt", (("turn",), ("say", 1, 0))),)),
        ))

    def test_fourth_example(self):
        self.assert_answers(EXAMPLE, (
            (lambda bench: bench.attempt([("say", 1, -1), ("say", 2, 1)]), 2, 2),
            (lambda bench: bench.sorted_by(("", "aa", "a")), ("aa", "a", ""), ("aa", "a", "")),
            (lambda bench: str(bench), *["1 letters, 3 states, 1 edits"] * 2),
        ))

    def test_fifth_example(self):
        self.assert_answers(EXAMPLE, ((lambda bench: bench.say(1, -1), 1, FAULTY),))

    def test_sixth_example(self):
        text = "letters a | state 0 1 2 same | state 1 1 1 more | state 2 2 2 %s | state 2 2 2 %s"
        answers = {
            "fault": [("none", "none"), ("- a", "none")],
            "tells aa -": [("more", "more")],
            "sort aa - a": [("- a aa", "- a aa")],
            "say 2 0": [("ok 1", "error Faulty")],
            "sort a": [("error Faulty", "a")],
            "drop 0": [("error BadDrop", "error BadDrop")],
            "link 0 .. 1": [("error NoColumn", "error NoColumn")],
            "grow 2": [("ok 2", "ok 1")],
            "text": [(text % ("same", "same"), text % ("less", "less"))],
            "tells b a": [("error BadWord", "error BadWord")],
            "undo": [("ok 1", "ok 0")],
            "turn": [("ok 2", "ok 1")],
            "say 3 2": [("error NoState", "error NoState")],
            "say 2 2": [("error BadVerdict", "error BadVerdict")],
            "tells  a a": [("unknown command", "unknown command")],
        }
        lines = (
            "fault", "tells aa -", "sort aa - a", "say 2 0", "fault", "sort a", "drop 0", "link 0 .. 1",
            "grow 2", "text", "tells b a", "undo", "turn", "say 3 2", "say 2 2", "tells  a a",
        )
        consoles = (Console(Bench(EXAMPLE)), Console(OrderBench(EXAMPLE)))
        for line in lines:
            found = tuple([console.execute(line) for console in consoles])
            self.assert_exactly((line, found), (line, answers[line].pop(0)))


class OperatorsTest(BothCase):
    """The operators of point [11], which no example shows, on both classes."""

    def test_items(self):
        self.assert_answers(EXAMPLE, (
            (lambda bench: (bench[0], bench[1], bench[2]), (0, 1, -1), (0, 1, -1)),
            (lambda bench: bench[3], "NoState3", "NoState3"),
            (lambda bench: bench[True], "NoStateTrue", "NoStateTrue"),
            (lambda bench: bench.__setitem__(2, 2), "BadVerdict2", "BadVerdict2"),
            (lambda bench: bench.__setitem__(3, 0), "NoState3", "NoState3"),
            (lambda bench: bench.__setitem__(0, 0), None, None),
            (lambda bench: bench.__setitem__(1, -1), None, FAULTY),
            (lambda bench: bench[1], -1, 1),
            (lambda bench: bench.edits(), (("say", 0, 0), ("say", 1, -1)), (("say", 0, 0),)),
        ))

    def test_behind_and_ahead(self):
        short, rising = by_length(2), by_ranks(2, (0, 1))
        for kind in (Bench, OrderBench):
            bench = same = kind(short)
            bench += rising
            self.assert_exactly(bench.comp, then(short, rising))
            bench -= rising
            self.assert_exactly(bench.comp, then(rising, then(short, rising)))
            self.assertIs(bench, same)
            self.assert_exactly(bench.edits(), (("behind", rising), ("ahead", rising)))
            self.assert_exactly(
                bench.tells("ab", "b"), tells(then(rising, then(short, rising)), "ab", "b"))
            self.assert_exactly([bench.undo(), bench.undo(), bench.comp], [1, 0, short])

    def test_len_str_and_equal(self):
        for kind, other in ((Bench, OrderBench), (OrderBench, Bench)):
            bench, twin = kind(EXAMPLE), kind(EXAMPLE)
            self.assert_exactly([len(bench), bool(bench)], [0, False])
            self.assert_exactly(str(bench), "1 letters, 3 states, 0 edits")
            bench.grow(1)
            self.assert_exactly([len(bench), bool(bench)], [1, True])
            self.assert_exactly(f"{bench}", "1 letters, 4 states, 1 edits")
            self.assert_exactly([bench == twin, bench != twin], [False, True])
            bench.drop(3)
            self.assert_exactly([bench == twin, bench != twin], [True, False])
            self.assert_exactly([bench == other(EXAMPLE), bench != other(EXAMPLE)], [False, True])
            self.assert_exactly([bench == EXAMPLE, bench == None], [False, False])  # noqa: E711

    def test_comp_at(self):
        turned = (1, EXAMPLE[1], (0, -1, 1))
        self.assert_answers(EXAMPLE, (
            (lambda bench: bench.turn(), 1, 1),
            (lambda bench: bench.comp_at(), turned, turned),
            (lambda bench: bench.comp_at(version=None), turned, turned),
            (lambda bench: bench.comp_at(version=0), EXAMPLE, EXAMPLE),
            (lambda bench: bench.comp_at(version=1), turned, turned),
            (lambda bench: bench.comp_at(version=2), "NoVersion2", "NoVersion2"),
        ))

    def test_neither_is_gone_over(self):
        for kind in (Bench, OrderBench):
            with self.assertRaises(TypeError):
                list(kind(EXAMPLE))


if __name__ == "__main__":
    unittest.main()
