"""Points [2] and [3] and the interface at the document's end: what holds for the whole program."""

import copy
import importlib
import inspect
import pathlib
import random
import unittest

from surelyorders import bounds, errors
from surelyorders.benches import Bench, OrderBench
from surelyorders.comps import columns, comp_error, tells
from surelyorders.consoles import Console
from surelyorders.faults import (
    chain_fault, is_order, paper, paper_holds, self_fault, tie, turn_fault, unlike,
)
from surelyorders.lists import all_sorted, is_sorted, merged, places, sorted_by
from surelyorders.makings import by_length, by_ranks, folded, then, turned
from surelyorders.ranges import (
    below_count, below_first, between, between_count, greatest, heads, least, like_count,
)
from surelyorders.texts import comp_text, parse_comp
from tests.plain import NO_CHAIN, PLAIN, ExactCase, outcome, random_order, random_word, some_comp, words
from tests.plain_bench import any_values

PACKAGE = pathlib.Path(__file__).resolve().parent.parent / "surelyorders"

# The functions and classes of each file, with their arguments.
INTERFACE = {
    "comps": {"comp_error": "value", "columns": "letters", "tells": "comp one other"},
    "makings": {
        "by_ranks": "letters ranks", "by_length": "letters", "turned": "comp", "then": "one other",
        "folded": "comp images",
    },
    "faults": {
        "self_fault": "comp", "turn_fault": "comp", "chain_fault": "comp", "is_order": "comp",
        "paper": "comp", "paper_holds": "comp value", "unlike": "one other", "tie": "comp",
    },
    "ranges": {
        "below_first": "comp word", "below_count": "comp word", "like_count": "comp word",
        "between": "comp low high", "between_count": "comp low high", "least": "comp",
        "greatest": "comp", "heads": "comp",
    },
    "lists": {
        "is_sorted": "comp words", "all_sorted": "comp words", "sorted_by": "comp words",
        "merged": "comp one other", "places": "comp words word",
    },
    "texts": {"comp_text": "comp", "parse_comp": "value"},
    "benches": {"Bench": "comp", "OrderBench": "comp"},
    "consoles": {"Console": "bench"},
}

BOUNDS = ("MAX_LETTERS", "MAX_STATES", "MAX_FEW", "MAX_LIST", "MAX_LENGTH", "MAX_EDITS", "BATCH")


class InterfaceTest(unittest.TestCase):
    def test_each_name_is_defined_in_its_file(self):
        for name, members in INTERFACE.items():
            module = importlib.import_module(f"surelyorders.{name}")
            for member, arguments in members.items():
                found = getattr(module, member)
                self.assertEqual(found.__module__, module.__name__)
                self.assertEqual(found.__name__, member)
                self.assertEqual(" ".join(inspect.signature(found).parameters), arguments)
                self.assertTrue(inspect.isfunction(found) or inspect.isclass(found))

    def test_bounds(self):
        for name in BOUNDS:
            self.assertIs(type(getattr(bounds, name)), int)

    def test_the_package_is_one_folder(self):
        self.assertEqual([path for path in PACKAGE.iterdir() if path.is_dir() and path.name != "__pycache__"], [])
        self.assertTrue((PACKAGE / "__init__.py").is_file())


class CallsTest(ExactCase):
    """[3]: arguments stay as they were; results are of Python's own kinds; equal calls agree."""

    PLAIN_KINDS = (tuple, str, int, bool, type(None))

    def calls(self):
        rising, short = by_ranks(2, (0, 1)), by_length(2)
        text = comp_text(rising)
        return (
            (comp_error, rising), (comp_error, list(rising)), (comp_error, [{"a": [rising]}]),
            (columns, 3), (tells, rising, "ab", "b"), (by_ranks, 2, (5, 1)), (by_length, 3),
            (turned, rising), (then, short, rising), (folded, rising, ("b", "a", "a")),
            (self_fault, rising), (turn_fault, NO_CHAIN), (chain_fault, NO_CHAIN), (is_order, rising),
            (paper, rising), (paper_holds, rising, paper(rising)),
            (paper_holds, rising, list(paper(rising))), (paper_holds, rising, ([{}], {"a": []}, [[]])),
            (unlike, rising, short), (tie, short), (below_first, rising, "ab"),
            (below_count, short, "ab"), (like_count, short, "ab"), (between, short, "a", "aba"),
            (between_count, short, "a", "aba"), (least, rising), (greatest, turned(short)), (heads, short),
            (is_sorted, rising, ("a", "b")), (all_sorted, rising, ("b", "a")),
            (sorted_by, rising, ("b", "", "a")), (merged, short, ("a", "b"), ("b", "aa")),
            (places, short, ("a", "b", "aa"), "b"), (comp_text, rising), (parse_comp, text),
        )

    def assert_own_kinds(self, value):
        self.assertIn(type(value), self.PLAIN_KINDS)
        if type(value) is tuple:
            for part in value:
                self.assert_own_kinds(part)

    def test_arguments_and_results(self):
        for function, *arguments in self.calls():
            with self.subTest(function=function.__name__):
                self.assert_own_kinds(self.checked(function, *arguments))

    def test_arguments_by_name(self):
        for function, *arguments in self.calls():
            named = dict(zip(inspect.signature(function).parameters, arguments))
            self.assert_exactly(function(**named), function(*arguments))

    def test_every_function_is_called(self):
        called = {function.__name__ for function, *_ in self.calls()}
        for name, members in INTERFACE.items():
            if name not in ("benches", "consoles"):
                self.assertLessEqual(set(members), called)

    def test_any_values(self):
        # What may be any value raises nothing else, and stays as it was.
        for value in any_values():
            kept = copy.deepcopy(value)
            bench = OrderBench(PLAIN)
            self.assertEqual(comp_error(value), (None, "comp"))
            self.assert_exactly(paper_holds(PLAIN, value), False)
            for call, names in (
                (lambda: parse_comp(value), ("BadText",)),
                (lambda: Bench(value), ("BadComp",)),
                (lambda: OrderBench(value), ("BadComp",)),
                (lambda: bench.link(value, value, value), ("NoState",)),
                (lambda: bench.link(0, value, value), ("NoColumn", "NoState")),
                (lambda: bench.say(value, value), ("NoState",)),
                (lambda: bench.grow(value), ("NoState",)),
                (lambda: bench.drop(value), ("NoState",)),
                (lambda: bench.attempt(value), ("BadEdits", "BadEdit", "returned")),
                (lambda: bench.attempt([value]), ("BadEdit", "returned")),
                (lambda: bench.tells(value, value), ("BadWord", "returned")),
                (lambda: bench.sorted_by(value), ("BadList", "returned")),
                (lambda: bench.comp_at(version=value), ("NoVersion", "returned")),
                (lambda: Console(Bench(PLAIN)).execute(value), ("returned",)),
            ):
                self.assertIn(outcome(call)[0], names)
            self.assertEqual(repr(value), repr(kept))

    def test_errors_are_of_the_package(self):
        # No method's own error is one of Python's: each is of the list, with its fields.
        bench = Bench(PLAIN)
        for call in (
            lambda: bench.link(7, "aa", 0), lambda: bench.link(0, "", 0), lambda: bench[7],
            lambda: bench.comp_at(version=7), lambda: bench.undo(), lambda: bench.attempt(7),
        ):
            with self.assertRaises((errors.OrderError, LookupError)) as caught:
                call()
            self.assertEqual(type(caught.exception).__module__, "surelyorders.errors")


class GuaranteesTest(ExactCase):
    """[2]: each of the guarantees for orders and for comparisons that are none."""

    def some_comps(self, seed, many):
        chance = random.Random(seed)
        return [some_comp(chance, chance.randrange(1, 3), 5) for _ in range(many)]

    def test_a_paper_or_a_fault(self):
        orders = 0
        for comp in self.some_comps(21, 120):
            faults = [self_fault(comp), turn_fault(comp), chain_fault(comp)]
            orders += is_order(comp)
            self.assertEqual(paper(comp) is not None, faults == [None, None, None])
            self.assertEqual(is_order(comp), faults == [None, None, None])
        self.assertTrue(20 < orders < 100)

    def test_b_papers_that_hold(self):
        comps = self.some_comps(22, 40)
        papers = [paper(comp) for comp in comps]
        for comp in comps:
            for value in papers + any_values():
                if paper_holds(comp, value):
                    self.assertTrue(is_order(comp))
        for comp, value in zip(comps, papers):
            self.assert_exactly(paper_holds(comp, value), value is not None)

    def test_c_nothing_is_found_where_nothing_is(self):
        for comp in self.some_comps(23, 60):
            read = words(comp[0], 2)
            if self_fault(comp) is None:
                self.assertTrue(all(tells(comp, word, word) == 0 for word in read))
            if turn_fault(comp) is None:
                self.assertTrue(all(tells(comp, a, b) == -tells(comp, b, a) for a in read for b in read))
            if tie(comp) is None:
                self.assertTrue(all(tells(comp, a, b) != 0 for a in read for b in read if a != b))
            for word in read:
                if below_first(comp, word) is None:
                    self.assertTrue(all(tells(comp, other, word) != -1 for other in read))

    def test_d_what_is_made_of_orders(self):
        chance = random.Random(24)
        for _ in range(40):
            letters = chance.randrange(1, 4)
            one, other = random_order(chance, letters, 0), random_order(chance, letters, 0)
            images = tuple([chance.choice("abc"[:letters]) for _ in range(chance.randrange(1, 4))])
            for comp in (one, by_length(letters), then(one, other), turned(one), folded(other, images)):
                self.assertTrue(is_order(comp))

    def test_e_least_and_greatest_and_lists(self):
        chance = random.Random(25)
        for _ in range(40):
            comp = random_order(chance, chance.randrange(1, 3), 1)
            read = words(comp[0], 3)
            for found, verdict in ((least(comp), -1), (greatest(comp), 1)):
                if found is not None:
                    self.assertTrue(all(tells(comp, word, found) != verdict for word in read))
                    ahead = read[:read.index(found)] if found in read else read
                    self.assertTrue(all(
                        any(tells(comp, other, word) == verdict for other in words(comp[0], 4))
                        for word in ahead if len(word) < 3))
            listed = tuple([random_word(chance, comp[0], 3) for _ in range(8)])
            self.assert_exactly(is_sorted(comp, listed), all_sorted(comp, listed))
            self.assert_exactly(all_sorted(comp, sorted_by(comp, listed)), True)
            for word in listed:
                same = [other for other in listed if tells(comp, word, other) == 0]
                kept = [other for other in sorted_by(comp, listed) if tells(comp, word, other) == 0]
                self.assertEqual(kept, same)

    def test_f_stands_with_the_benches(self):
        # Runs of edits, undo, redo and attempts are in test_benches and test_order_benches.
        bench = Bench(PLAIN)
        bench.attempt([("grow", 1), ("turn",), ("drop", 1)], watch=lambda held: held[1] == -1)
        bench.say(0, 1)
        bench.undo()
        again = Bench(PLAIN)
        for _, items in bench.edits():
            again.attempt(items)
        self.assert_exactly(again.comp, bench.comp)
        self.assert_exactly(again.edits(), bench.edits())


if __name__ == "__main__":
    unittest.main()
