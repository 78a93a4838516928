"""Point [12]: attempts of a bench, with watches that end, raise and edit."""

import random
import unittest

from surelyorders.benches import Bench, OrderBench
from surelyorders.bounds import BATCH, MAX_EDITS
from surelyorders.consoles import Console
from surelyorders.errors import Busy, Rejected
from surelyorders.makings import by_length
from tests.plain import NEVER, NO_TURN, PLAIN, ExactCase, outcome
from tests.plain_bench import any_values, replayed, undone_and_redone, view_of

TURN = ("turn",)


class Answer:
    """A watch's result: it counts as true or not, and tells how often it is asked."""

    def __init__(self, true, asked=None):
        self.true = true
        self.asked = asked
        self.times = 0

    def __bool__(self):
        self.times += 1
        if self.asked is not None:
            self.asked()
        return self.true


class AttemptCase(ExactCase):
    def bench_with_removed(self, kind=Bench):
        """A bench with two edits that stand and one that undo has removed."""
        bench = kind(PLAIN)
        bench.turn()
        bench.grow(1)
        bench.turn()
        bench.undo()
        return bench

    def assert_as_it_was(self, bench, call):
        """The call changes nothing, also with regard to redo; what it comes to is returned."""
        before, later = view_of(bench), undone_and_redone(bench)
        self.assertEqual(len(later), 1)
        result = outcome(call)
        self.assertEqual(repr(view_of(bench)), repr(before))
        self.assertEqual(repr(undone_and_redone(bench)), repr(later))
        return result


class ExampleTest(ExactCase):
    def test_third_example_of_section_7(self):
        bench = Bench((1, ((0, 1, 2), (1, 1, 1), (2, 2, 2)), (0, 1, -1)))
        results = [
            bench.attempt(
                [("turn",), ("say", 1, 0), ("say", 2, 0)],
                watch=lambda held: held.first_fault() is not None),
            bench.comp[2], len(bench), bench.undo(), bench.first_fault(),
        ]
        self.assertEqual(repr(results), "[2, (0, 0, 1), 1, 0, None]")


class ItemsTest(AttemptCase):
    def test_all_the_edits(self):
        items = (
            ("link", 0, "a.", 2), ("say", 1, 0), ("grow", 2), ("drop", 1), ("turn",),
            ("behind", PLAIN), ("ahead", NEVER),
        )
        one, other = Bench(PLAIN), Bench(PLAIN)
        self.assert_exactly(one.attempt(items), 7)
        other.link(0, "a.", 2)
        other.say(1, 0)
        other.grow(2)
        other.drop(1)
        other.turn()
        other += PLAIN
        other -= NEVER
        self.assert_exactly(one.comp, other.comp)
        self.assert_exactly([len(one), len(other)], [1, 7])
        self.assert_exactly(one.edits(), (("attempt", items),))
        self.assert_exactly([one.undo(), one.comp], [0, PLAIN])
        self.assert_exactly([one.redo(), one.comp], [1, other.comp])

    def test_a_list_and_a_tuple(self):
        for items in ([TURN, ("say", 0, 1)], (TURN, ("say", 0, 1))):
            bench = Bench(PLAIN)
            self.assert_exactly(bench.attempt(items), 2)
            self.assert_exactly(bench.edits(), (("attempt", (TURN, ("say", 0, 1))),))
            self.assertEqual(items[0], TURN)

    def test_one_item_and_none(self):
        bench = Bench(PLAIN)
        self.assert_exactly(bench.attempt([TURN]), 1)
        self.assert_exactly(bench.edits(), (("attempt", (TURN,)),))
        bench.undo()
        for items in ([], ()):
            self.assert_exactly(bench.attempt(items, watch=self.fail), 0)
            self.assert_exactly([len(bench), bench.edits()], [0, ()])
        self.assert_exactly(bench.redo(), 1)

    def test_it_counts_once(self):
        bench = Bench(PLAIN)
        for version in range(1, MAX_EDITS + 1):
            self.assert_exactly(bench.attempt([TURN] * BATCH), BATCH)
            self.assert_exactly(len(bench), version)
        self.assertEqual(outcome(bench.attempt, [TURN]), ("TooManyEdits", {}))
        self.assert_exactly(bench.undo(), MAX_EDITS - 1)
        # The items have no regard to MAX_EDITS.
        self.assert_exactly(bench.attempt([TURN] * BATCH), BATCH)

    def test_bad_edits(self):
        bench = self.bench_with_removed()
        wrong = [value for value in any_values() if type(value) not in (list, tuple)]
        for value in wrong + [[TURN] * (BATCH + 1), (TURN,) * (BATCH + 1), [None] * 21, {"turn": ()}]:
            result = self.assert_as_it_was(bench, lambda: bench.attempt(value, watch=self.fail))
            self.assertEqual(result, ("BadEdits", {}))
        self.assert_exactly(bench.attempt([TURN] * BATCH), BATCH)

    def test_bad_edit(self):
        bench = self.bench_with_removed()
        wrong = [value for value in any_values() if value != TURN] + [
            ["turn"], ("turn", 0), ("link", 0, "aa"), ("link", 0, "aa", 0, 0), ("link",), ("say", 0),
            ("say", 0, 0, 0), ("grow",), ("grow", 0, 0), ("drop",), ("drop", 1, 1), ("behind",),
            ("behind", PLAIN, PLAIN), ("ahead",), ("undo",), ("redo",), ("attempt", ()), ("Turn",),
            ("comp_at",), (["turn"],), ({},), (("turn",),), ("turn ",), (True,), ("attempt", (TURN,)),
            ("tells", "", ""), ("__init__", PLAIN), ("edit", TURN), ("first_fault",),
        ]
        for value in wrong:
            for items in ([value], (TURN, value), [TURN, TURN, value, value, None], [("say", 9, 9), value]):
                first = [item is value for item in items].index(True)
                result = self.assert_as_it_was(bench, lambda: bench.attempt(items, watch=self.fail))
                self.assertEqual(result, ("BadEdit", {"index": first}))
                self.assert_exactly(result[1]["index"], first)

    def test_any_values_in_an_item_are_rejected_and_not_bad(self):
        for value in any_values():
            for item, right in (
                (("link", value, "aa", 0), 0), (("link", 0, value, 0), "aa"), (("link", 0, "aa", value), 0),
                (("say", value, 0), 0), (("say", 0, value), -1), (("grow", value), 0), (("drop", value), 1),
                (("behind", value), PLAIN), (("ahead", value), PLAIN),
            ):
                if repr(value) != repr(right):
                    self.assertEqual(outcome(Bench(PLAIN).attempt, [item]), ("Rejected", {"index": 0}))

    def test_rejected(self):
        great = (1, tuple([((state + 1) % 37,) * 3 for state in range(37)]), (0,) * 37)
        for item in (
            ("link", 9, "aa", 0), ("link", 0, "..", 0), ("link", 0, "aa", 9), ("say", -1, 0),
            ("say", 0, 2), ("grow", 4), ("drop", 0), ("drop", 4), ("behind", None),
            ("ahead", by_length(2)), ("behind", great),
        ):
            for index in (0, 1, 5, BATCH - 1):
                bench = self.bench_with_removed()
                items = [TURN] * index + [item] + [TURN] * (BATCH - index - 1)
                calls = []
                result = self.assert_as_it_was(
                    bench, lambda: bench.attempt(items, watch=lambda held: calls.append(len(calls))))
                self.assertEqual((result[0], list(result[1])), ("Rejected", ["index"]))
                self.assert_exactly(result[1]["index"], index)
                # The watch was called for those that were done ahead of it.
                self.assertEqual(len(calls), index)

    def test_each_item_sees_those_ahead_of_it(self):
        bench = Bench(NEVER)
        items = [("grow", 0), ("grow", 1), ("say", 2, 1), ("link", 0, "a.", 2), ("drop", 1)]
        self.assert_exactly(bench.attempt(items), 5)
        self.assert_exactly(bench.comp, (1, ((0, 1, 0), (0, 0, 0)), (0, 1)))
        self.assertEqual(outcome(bench.attempt, [("drop", 1), ("say", 1, 0)]), ("Rejected", {"index": 1}))

    def test_what_is_wrong_first(self):
        bench = Bench(PLAIN)
        for _ in range(MAX_EDITS):
            bench.turn()
        for edits, expected in (
            ([None] * (BATCH + 1), ("BadEdits", {})), ([TURN, None], ("BadEdit", {"index": 1})),
            ([("drop", 0)], ("TooManyEdits", {})), ([], ("returned", 0)),
        ):
            self.assertEqual(outcome(bench.attempt, edits, watch=self.fail), expected)


class WatchTest(AttemptCase):
    def test_called_after_each_item(self):
        bench, seen = Bench(PLAIN), []

        def watch(held):
            seen.append((held is bench, view_of(held)))

        items = (TURN, ("say", 0, 1), ("grow", 0))
        bench.turn()
        self.assert_exactly(bench.attempt(items, watch=watch), 3)
        self.assertEqual(len(seen), 3)
        for done, (same, view) in enumerate(seen, start=1):
            other = Bench(PLAIN)
            other.turn()
            other.attempt(items[:done])
            self.assertTrue(same)
            self.assertEqual(repr(view), repr(view_of(other)))
            self.assertEqual(view["len"], 2)

    def test_all_queries_work(self):
        bench = OrderBench(PLAIN)
        bench.turn()
        seen = []

        def asked(held):
            twin = Bench(held.comp)
            seen.append([
                held.comp, held[1], len(held), str(held), bool(held), held.edits(), held.comp_at(),
                held.comp_at(version=0), held.comp_at(version=1), held.comp_at(version=2),
                outcome(held.comp_at, version=3), held.first_fault(), held.tells("", "a"),
                outcome(held.sorted_by, ("aa", "a")), held == held, held == twin, held.MOST_EDITS,
            ])
            self.assert_exactly(held.first_fault(), twin.first_fault())
            self.assert_exactly(held.tells("", "a"), twin.tells("", "a"))
            self.assert_exactly(outcome(held.sorted_by, ("aa", "a")), outcome(twin.sorted_by, ("aa", "a")))

        self.assert_exactly(bench.attempt([("say", 1, 1), ("say", 2, -1)], watch=asked), 2)
        first, second = (1, PLAIN[1], (0, 1, 1)), (1, PLAIN[1], (0, 1, -1))
        turned = (1, PLAIN[1], (0, -1, 1))
        done = (("say", 1, 1), ("say", 2, -1))
        self.assertEqual(repr(seen), repr([
            [first, 1, 2, "1 letters, 3 states, 2 edits", True, (TURN, ("attempt", done[:1])), first,
             PLAIN, turned, first, ("NoVersion", {"version": 3}), ("", "a"), 1,
             ("Faulty", {"fault": ("", "a")}), True, False, MAX_EDITS],
            [second, 1, 2, "1 letters, 3 states, 2 edits", True, (TURN, ("attempt", done)), second,
             PLAIN, turned, second, ("NoVersion", {"version": 3}), None, -1,
             ("returned", ("a", "aa")), True, False, MAX_EDITS],
        ]))

    def test_it_ends_the_attempt(self):
        items = [TURN, ("say", 0, 1), ("grow", 0), ("drop", 3)]
        for many in range(1, 5):
            for true in (True, 1, "a", [0], (None,), -1, Answer(True), object()):
                bench = self.bench_with_removed()
                done = bench.attempt(
                    items, watch=lambda held: true if len(held.edits()[-1][1]) == many else None)
                self.assert_exactly(done, many)
                self.assert_exactly(bench.edits()[-1], ("attempt", tuple(items[:many])))
                self.assert_exactly(len(bench), 3)
                self.assertEqual(outcome(bench.redo), ("NothingToRedo", {}))
                again = replayed(PLAIN, bench.edits(), Bench)
                self.assertEqual(repr(view_of(again)), repr(view_of(bench)))

    def test_what_comes_behind_the_end_is_not_done(self):
        bench = Bench(PLAIN)
        items = [TURN, ("drop", 0), ("say", 9, 9)]
        self.assert_exactly(bench.attempt(items, watch=lambda held: True), 1)
        self.assert_exactly(bench.edits(), (("attempt", (TURN,)),))

    def test_results_that_count_as_false(self):
        for false in (None, False, 0, "", [], (), {}, Answer(False), Bench(PLAIN)):
            bench = Bench(PLAIN)
            self.assert_exactly(bench.attempt([TURN] * 3, watch=lambda held: false), 3)

    def test_the_bench_itself_as_the_result(self):
        # Its version counts the attempt, so it counts as true.
        bench = Bench(PLAIN)
        self.assert_exactly(bench.attempt([TURN] * 3, watch=lambda held: held), 1)

    def test_each_result_is_asked_once(self):
        answers = []

        def watch(held):
            answers.append(Answer(len(answers) == 3))
            return answers[-1]

        self.assert_exactly(Bench(PLAIN).attempt([TURN] * 6, watch=watch), 4)
        self.assertEqual([answer.times for answer in answers], [1, 1, 1, 1])
        answers.clear()
        self.assert_exactly(Bench(PLAIN).attempt([TURN] * 3, watch=watch), 3)
        self.assertEqual([answer.times for answer in answers], [1, 1, 1])

    def test_it_is_not_called_behind_redo(self):
        calls = []
        bench = Bench(PLAIN)
        bench.attempt([TURN, ("grow", 0), TURN], watch=lambda held: calls.append(0) or len(calls) == 2)
        self.assertEqual(len(calls), 2)
        bench.undo()
        self.assert_exactly(bench.redo(), 1)
        self.assertEqual(len(calls), 2)
        self.assert_exactly(bench.edits(), (("attempt", (TURN, ("grow", 0))),))

    def test_edits_are_copied(self):
        bench, edits = Bench(PLAIN), [TURN, ("say", 0, 1)]

        def watch(held):
            edits.clear()
            edits.append(("drop", 0))

        self.assert_exactly(bench.attempt(edits, watch=watch), 2)
        self.assert_exactly(bench.edits(), (("attempt", (TURN, ("say", 0, 1))),))
        longer = [TURN]
        self.assert_exactly(bench.attempt(longer, watch=lambda held: longer.extend([None] * 30)), 1)


class RaisingTest(AttemptCase):
    class Odd(Exception):
        """An error that the package does not know."""

    def watch_that(self, many, act):
        """A watch that does something when it is called for the many-th time."""
        calls = []

        def watch(held):
            calls.append(0)
            return act(held) if len(calls) == many else None
        return watch

    def assert_propagates(self, kind, error, in_result):
        def raising(*_):
            raise error

        act = (lambda held: Answer(True, raising)) if in_result else raising
        for many in (1, 2, 4):
            bench = self.bench_with_removed(kind)
            items = [TURN, ("grow", 0), TURN, TURN]
            before, later = view_of(bench), undone_and_redone(bench)
            with self.assertRaises(type(error)) as caught:
                bench.attempt(items, watch=self.watch_that(many, act))
            self.assertIs(caught.exception, error)
            self.assertEqual(repr(view_of(bench)), repr(before))
            self.assertEqual(repr(undone_and_redone(bench)), repr(later))
            # It is busy no longer.
            self.assert_exactly(bench.turn(), 3)

    def test_errors_propagate(self):
        for error in (
            self.Odd(), ValueError(), LookupError(), KeyError("a"), Rejected(7), Busy(), TypeError(),
            StopIteration(), ZeroDivisionError(), AssertionError(), RecursionError(),
        ):
            for kind in (Bench, OrderBench):
                for in_result in (False, True):
                    self.assert_propagates(kind, error, in_result)

    def test_a_result_that_cannot_be_asked(self):
        class Unclear:
            def __bool__(self):
                return 7

        bench = self.bench_with_removed()
        result = self.assert_as_it_was(bench, lambda: bench.attempt([TURN], watch=lambda held: Unclear()))
        self.assertEqual(result[0], "TypeError")

    def test_a_watch_of_another_bench(self):
        # Rejected of an attempt within a watch is the watch's own error.
        bench, other = self.bench_with_removed(), Bench(PLAIN)
        result = self.assert_as_it_was(
            bench, lambda: bench.attempt([TURN], watch=lambda held: other.attempt([TURN, ("drop", 0)])))
        self.assertEqual(result, ("Rejected", {"index": 1}))


class BusyTest(AttemptCase):
    def calls(self, bench):
        return (
            lambda: bench.link(0, "aa", 0), lambda: bench.say(0, 0), lambda: bench.grow(0),
            lambda: bench.drop(1), bench.turn, bench.undo, bench.redo,
            lambda: bench.__setitem__(0, 0), lambda: bench.__iadd__(PLAIN),
            lambda: bench.__isub__(PLAIN), lambda: bench.attempt([TURN]), lambda: bench.attempt([]),
            # It comes ahead of all other errors.
            lambda: bench.link(None, None, None), lambda: bench.say(9, 9), lambda: bench.grow([]),
            lambda: bench.drop(0), lambda: bench.__setitem__(9, 9), lambda: bench.__iadd__(None),
            lambda: bench.__isub__(None), lambda: bench.attempt(None), lambda: bench.attempt([None]),
        )

    def assert_busy(self, kind, in_result):
        bench, found = self.bench_with_removed(kind), []

        def look(*_):
            view = view_of(bench)
            for call in self.calls(bench):
                found.append(outcome(call))
                self.assertEqual(repr(view_of(bench)), repr(view))
            console = Console(bench)
            found.extend([console.execute(line) for line in ("turn", "undo", "redo", "drop 0", "say 9 9")])

        watch = (lambda held: Answer(False, look)) if in_result else look
        self.assert_exactly(bench.attempt([TURN, TURN], watch=watch), 2)
        busy = [("Busy", {})] * len(self.calls(bench)) + ["error Busy"] * 5
        self.assertEqual(found, busy * 2)
        self.assert_exactly([len(bench), bench.undo(), bench.redo()], [3, 2, 3])

    def test_while_the_watch_runs(self):
        self.assert_busy(Bench, False)
        self.assert_busy(OrderBench, False)

    def test_while_its_result_is_asked(self):
        self.assert_busy(Bench, True)
        self.assert_busy(OrderBench, True)

    def test_busy_propagates(self):
        bench = self.bench_with_removed()
        result = self.assert_as_it_was(bench, lambda: bench.attempt([TURN], watch=lambda held: held.turn()))
        self.assertEqual(result, ("Busy", {}))

    def test_other_benches_are_not_busy(self):
        bench, other = Bench(PLAIN), Bench(PLAIN)
        self.assert_exactly(bench.attempt([TURN, TURN], watch=lambda held: other.turn() == 9), 2)
        self.assert_exactly([len(bench), len(other)], [1, 2])

    def test_benches_that_watch_each_other(self):
        one, other, found = Bench(PLAIN), Bench(PLAIN), []

        def inner(held):
            found.append(outcome(one.turn))
            found.append(outcome(other.turn))

        def outer(held):
            other.attempt([TURN], watch=inner)
            found.append(outcome(one.turn))
            found.append(outcome(other.turn))

        one.attempt([TURN], watch=outer)
        self.assertEqual(found, [("Busy", {}), ("Busy", {}), ("Busy", {}), ("returned", 2)])
        self.assert_exactly([len(one), len(other)], [1, 2])

    def test_free_again_behind_every_end(self):
        for watch in (None, lambda held: None, lambda held: True, lambda held: held.turn()):
            bench = Bench(PLAIN)
            outcome(bench.attempt, [TURN, ("drop", 0)], watch=watch)
            self.assertEqual(outcome(bench.turn)[0], "returned")

    def test_a_faulty_bench_can_be_watched(self):
        bench = Bench(NO_TURN)
        found = []
        bench.attempt([TURN, ("say", 1, 0)], watch=lambda held: found.append(held.first_fault()))
        self.assert_exactly(found, [("", "a"), None])


class RandomWatchTest(AttemptCase):
    def test_watches_that_end_or_raise(self):
        chance = random.Random(121)
        for _ in range(300):
            bench = self.bench_with_removed()
            items = [chance.choice((TURN, ("grow", 0), ("say", 0, 1), ("drop", 2))) for _ in range(6)]
            stop, way = chance.randrange(1, 8), chance.choice(("end", "raise", "go on"))

            def watch(held):
                if len(held.edits()[-1][1]) < stop or way == "go on":
                    return 0
                if way == "raise":
                    raise RaisingTest.Odd()
                return "end"

            twin = self.bench_with_removed()
            expected = outcome(twin.attempt, items)
            # So many items can be done, if the watch lets them.
            many = expected[1]["index"] if expected[0] == "Rejected" else len(items)
            if way != "go on" and stop <= many:
                twin = self.bench_with_removed()
                expected = ("Odd", {}) if way == "raise" else outcome(twin.attempt, items[:stop])
            self.assertEqual(outcome(bench.attempt, items, watch=watch), expected)
            self.assertEqual(repr(view_of(bench)), repr(view_of(twin)))
            self.assertEqual(repr(undone_and_redone(bench)), repr(undone_and_redone(twin)))


if __name__ == "__main__":
    unittest.main()
