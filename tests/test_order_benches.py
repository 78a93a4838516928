"""Point [13]: OrderBench, surelyorders/benches.py: each version's comparison is an order."""

import random
import unittest

from surelyorders.benches import Bench, OrderBench
from surelyorders.bounds import BATCH, MAX_EDITS, MAX_STATES
from surelyorders.errors import Faulty
from surelyorders.faults import is_order, paper, paper_holds
from surelyorders.makings import by_length, by_ranks, then, turned
from tests.plain import (
    NEVER, NO_CHAIN, NO_SELF, NO_TURN, PLAIN, ExactCase, outcome, random_order, some_comp,
)
from tests.plain_bench import (
    PlainBench, Refused, any_values, do_edit, edited, random_item, replayed, undone_and_redone,
    view_of,
)

TURN = ("turn",)


class OrderBenchCase(ExactCase):
    def assert_as_it_was(self, bench, call, expected):
        """The call raises what is expected and changes nothing, also with regard to redo."""
        before, later = view_of(bench), undone_and_redone(bench)
        result = outcome(call)
        self.assertEqual(repr(result), repr(expected))
        self.assertEqual(repr(view_of(bench)), repr(before))
        self.assertEqual(repr(undone_and_redone(bench)), repr(later))

    def assert_orders(self, bench):
        for version in range(len(bench) + 1):
            comp = bench.comp_at(version=version)
            self.assertTrue(is_order(comp))
        self.assertTrue(paper_holds(bench.comp, paper(bench.comp)))


class ExampleTest(ExactCase):
    def test_fourth_example_of_section_7(self):
        bench = OrderBench((1, ((0, 1, 2), (1, 1, 1), (2, 2, 2)), (0, 1, -1)))
        results = [
            bench.attempt([("say", 1, -1), ("say", 2, 1)]), bench.sorted_by(("", "aa", "a")), str(bench),
        ]
        expected = "[2, ('aa', 'a', ''), '1 letters, 3 states, 1 edits']"
        self.assertEqual(repr(results), expected)

    def test_fifth_example_of_section_7(self):
        with self.assertRaises(Faulty) as caught:
            OrderBench((1, ((0, 1, 2), (1, 1, 1), (2, 2, 2)), (0, 1, -1))).say(1, -1)
        self.assert_exactly(caught.exception.fault, ('', 'a'))


class MadeTest(OrderBenchCase):
    def test_faulty(self):
        for comp, fault in (
            (NO_SELF, ""), (NO_TURN, ("", "a")), (NO_CHAIN, ("aa", "a", "")),
            ((1, ((1, 0, 0), (0, 0, 0)), (0, 1)), "a"),
        ):
            name, fields = outcome(OrderBench, comp)
            self.assertEqual((name, list(fields)), ("Faulty", ["fault"]))
            self.assert_exactly(fields["fault"], fault)
            self.assertEqual(outcome(Bench, comp)[0], "returned")

    def test_what_bench_raises_comes_first(self):
        for value in any_values():
            self.assertEqual(outcome(OrderBench, value), ("BadComp", {"error": (None, "comp")}))
        wide = (1, ((0, 0, 0),) * (MAX_STATES + 1), (1,) * (MAX_STATES + 1))
        self.assertEqual(outcome(OrderBench, wide), ("TooGreat", {}))
        self.assertEqual(outcome(OrderBench, (1, ((0, 0, 1),), (1,))), ("BadComp", {"error": (0, "row")}))

    def test_orders(self):
        for comp in (PLAIN, NEVER, by_ranks(3, (0, 1, 2)), turned(by_length(2))):
            bench = OrderBench(comp)
            self.assert_exactly([bench.comp, len(bench), bench.first_fault()], [comp, 0, None])


class EditsTest(OrderBenchCase):
    def bench_with_removed(self):
        bench = OrderBench(PLAIN)
        bench.turn()
        bench.grow(1)
        bench.turn()
        bench.undo()
        return bench

    def test_each_edit(self):
        bench = self.bench_with_removed()
        for call, fault in (
            (lambda: bench.link(0, "a.", 0), ("", "a")), (lambda: bench.say(0, 1), ""),
            (lambda: bench.say(1, 0), ("", "a")), (lambda: bench.drop(1), ("", "a")),
            (lambda: bench.__setitem__(2, -1), ("", "a")), (lambda: bench.__iadd__(NO_SELF), ""),
            (lambda: bench.__isub__(NO_TURN), ("", "a")), (lambda: bench.__isub__(NO_CHAIN), ("", "aa", "a")),
        ):
            self.assert_as_it_was(bench, call, ("Faulty", {"fault": fault}))
        # States that nothing leads to may be changed: the words are told as before.
        self.assert_exactly([bench.say(3, 1), bench.drop(3), bench.turn(), len(bench)], [3, 4, 5, 5])

    def test_all_other_errors_come_first(self):
        bench = self.bench_with_removed()
        for call, name, fields in (
            (lambda: bench.say(0, 2), "BadVerdict", {"verdict": 2}),
            (lambda: bench.say(4, 1), "NoState", {"state": 4}),
            (lambda: bench.link(0, "..", 0), "NoColumn", {"column": ".."}),
            (lambda: bench.drop(0), "BadDrop", {"state": 0}),
            (lambda: bench.__iadd__(by_length(2)), "Unlike", {}),
            (lambda: bench.__isub__((1, ((0, 0, 9),), (1,))), "BadComp", {"error": (0, "row")}),
        ):
            self.assert_as_it_was(bench, call, (name, fields))
        ring = tuple([((state + 1) % 40,) * 3 for state in range(40)])
        great = OrderBench((1, ring, (0,) * 40))
        for do in (great.__iadd__, great.__isub__):
            self.assert_as_it_was(great, lambda: do((1, ring[:-2] + ((0, 0, 0),) * 2, (1,) * 40)), ("TooGreat", {}))
        while len(bench) < MAX_EDITS:
            bench.turn()
        self.assert_as_it_was(bench, lambda: bench.say(0, 1), ("TooManyEdits", {}))
        self.assert_as_it_was(bench, lambda: bench.attempt([("say", 0, 1)]), ("TooManyEdits", {}))

    def test_operators(self):
        bench = same = OrderBench(by_length(2))
        bench += by_ranks(2, (0, 1))
        bench -= by_ranks(2, (1, 0))
        self.assertIs(bench, same)
        self.assert_exactly(
            bench.comp, then(by_ranks(2, (1, 0)), then(by_length(2), by_ranks(2, (0, 1)))))
        self.assert_orders(bench)

    def test_undo_and_redo_never_raise_it(self):
        bench = OrderBench(PLAIN)
        bench.attempt([("say", 1, -1), ("say", 2, 1)])
        bench.grow(0)
        for _ in range(3):
            self.assert_exactly([bench.undo(), bench.undo(), bench.comp], [1, 0, PLAIN])
            self.assert_exactly([bench.redo(), bench.redo(), len(bench)], [1, 2, 2])
        self.assert_orders(bench)


class AttemptTest(OrderBenchCase):
    def test_only_the_end_is_asked(self):
        bench = OrderBench(PLAIN)
        items = [("say", 0, 1), ("say", 1, 0), ("say", 1, -1), ("say", 0, 0), ("say", 2, 1)]
        faults = []
        done = bench.attempt(items, watch=lambda held: faults.append(held.first_fault()))
        self.assert_exactly(done, 5)
        self.assert_exactly(faults, ["", "", "", ("", "a"), None])
        self.assert_exactly([bench.comp[2], len(bench)], [(0, -1, 1), 1])
        self.assert_orders(bench)

    def test_faulty_in_the_end(self):
        bench = OrderBench(PLAIN)
        bench.turn()
        bench.turn()
        bench.undo()
        for items, fault in (
            ([("say", 0, 1)], ""), ([("say", 1, 0)], ("", "a")), ([TURN, ("say", 0, 1), TURN], ""),
            ([("behind", NEVER), ("ahead", NO_CHAIN)], ("", "aa", "a")), ([("drop", 2)], ("", "a")),
        ):
            self.assert_as_it_was(bench, lambda: bench.attempt(items), ("Faulty", {"fault": fault}))
            self.assert_as_it_was(
                bench, lambda: bench.attempt(items, watch=lambda held: False), ("Faulty", {"fault": fault}))
        self.assert_exactly(bench.redo(), 2)

    def test_what_stands_when_the_watch_ends_them_is_asked(self):
        items = [("say", 1, -1), ("say", 2, 1), ("say", 0, 1)]
        for many, fault in ((1, ("", "a")), (2, None), (3, "")):
            bench = OrderBench(PLAIN)
            bench.turn()
            bench.undo()

            def watch(held):
                return len(held.edits()[-1][1]) == many

            if fault is None:
                self.assert_exactly(bench.attempt(items, watch=watch), 2)
                self.assert_exactly(bench.edits(), (("attempt", tuple(items[:2])),))
                self.assertEqual(outcome(bench.redo), ("NothingToRedo", {}))
            else:
                self.assert_as_it_was(
                    bench, lambda: bench.attempt(items, watch=watch), ("Faulty", {"fault": fault}))

    def test_rejected_comes_ahead_of_faulty(self):
        bench = OrderBench(PLAIN)
        bench.turn()
        bench.turn()
        bench.undo()
        items = [("say", 0, 1), ("drop", 0)]
        self.assert_as_it_was(bench, lambda: bench.attempt(items), ("Rejected", {"index": 1}))
        # What is faulty is no error of an item.
        self.assert_as_it_was(bench, lambda: bench.attempt(items[:1]), ("Faulty", {"fault": ""}))

    def test_a_watch_that_raises_comes_ahead_of_faulty(self):
        bench = OrderBench(PLAIN)
        bench.turn()
        bench.undo()

        def watch(held):
            raise KeyError("own")

        self.assert_as_it_was(bench, lambda: bench.attempt([("say", 0, 1)], watch=watch), ("KeyError", {}))

    def test_no_items(self):
        bench = OrderBench(PLAIN)
        self.assert_exactly([bench.attempt([]), bench.attempt(()), len(bench)], [0, 0, 0])


class EqualTest(OrderBenchCase):
    def test_kinds(self):
        for one in (Bench, OrderBench):
            for other in (Bench, OrderBench):
                alike = one is other
                self.assert_exactly(one(PLAIN) == other(PLAIN), alike)
                self.assert_exactly(one(PLAIN) != other(PLAIN), not alike)
                self.assert_exactly(one(PLAIN) == other(NEVER), False)
        first, second = OrderBench(PLAIN), OrderBench(turned(PLAIN))
        second.turn()
        self.assert_exactly(first == second, True)
        self.assert_exactly(first == PLAIN, False)


class RandomRunTest(OrderBenchCase):
    def run_both(self, bench, plain, chance, others):
        way = chance.random()
        if way < 0.15:
            return outcome(bench.undo), self.plain_outcome(plain.undo)
        if way < 0.25:
            return outcome(bench.redo), self.plain_outcome(plain.redo)
        if way < 0.5:
            comp, items = bench.comp, []
            for _ in range(chance.choice((1, 2, 3, 6))):
                items.append(random_item(chance, comp, others))
                try:
                    comp = edited(comp, items[-1])
                except Refused:
                    pass
            if chance.random() < 0.4:
                # Twice turned as a whole, and something on the way that is taken back.
                items = [TURN, ("say", 0, 1), TURN, ("say", 0, bench[0])]
            self.assertLessEqual(len(items), BATCH)
            return outcome(bench.attempt, items), self.plain_outcome(plain.attempt, items)
        item = random_item(chance, bench.comp, others)
        return outcome(do_edit, bench, item), self.plain_outcome(plain.edit, item)

    def plain_outcome(self, call, *arguments):
        try:
            return ("returned", call(*arguments))
        except Refused as refused:
            return refused.told

    def test_runs(self):
        chance = random.Random(131)
        names = {}
        for _ in range(12):
            letters = chance.randrange(1, 3)
            first = random_order(chance, letters, 1)
            others = [random_order(chance, letters, 0), some_comp(chance, letters, 3)]
            bench, plain = OrderBench(first), PlainBench(first, ordered=True)
            for _ in range(40):
                result, expected = self.run_both(bench, plain, chance, others)
                self.assertEqual(repr(result), repr(expected))
                names[result[0]] = names.get(result[0], 0) + 1
            self.assertEqual(repr(view_of(bench)), repr(plain.view()))
            self.assertEqual(repr(undone_and_redone(bench)), repr(undone_and_redone(plain)))
            self.assert_orders(bench)
            # Guarantee (f).
            again = replayed(first, bench.edits(), OrderBench)
            self.assertEqual(repr(view_of(again)), repr(view_of(bench)))
        self.assertGreater(names["returned"], 50)
        self.assertGreater(names["Faulty"], 50)


if __name__ == "__main__":
    unittest.main()
