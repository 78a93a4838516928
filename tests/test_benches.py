"""Points [11] and [13]: the edits and the queries of Bench, surelyorders/benches.py."""

import copy
import inspect
import random
import unittest

from surelyorders import benches
from surelyorders.benches import Bench, OrderBench
from surelyorders.bounds import BATCH, MAX_EDITS, MAX_LENGTH, MAX_LIST, MAX_STATES
from surelyorders.comps import columns
from surelyorders.errors import BadList, BadWord, NoVersion
from surelyorders.lists import sorted_by
from surelyorders.makings import by_length, by_ranks, then, turned
from tests.plain import (
    COLUMNS, NEVER, NO_CHAIN, NO_SELF, NO_TURN, PLAIN, ExactCase, outcome, random_comp,
    random_order, random_word, some_comp, told, words,
)
from tests.plain_bench import (
    PlainBench, Refused, any_values, do_edit, edited, fault_of, random_item, replayed,
    undone_and_redone, view_of,
)

TWO = (1, ((0, 1, 1), (1, 1, 0)), (0, 1))


class BenchCase(ExactCase):
    def assert_raises(self, bench, call, name, **fields):
        """The call raises just this error, and the bench stays as it was."""
        before, later = view_of(bench), undone_and_redone(bench)
        result = outcome(call)
        self.assertEqual((result[0], list(result[1])), (name, list(fields)))
        for field, value in fields.items():
            if isinstance(value, (list, tuple, dict, str)):
                self.assertEqual(repr(result[1][field]), repr(value))
            else:
                self.assert_exactly(result[1][field], value)
        self.assertEqual(repr(view_of(bench)), repr(before))
        self.assertEqual(repr(undone_and_redone(bench)), repr(later))

    def assert_shows(self, bench, plain):
        self.assertEqual(repr(view_of(bench)), repr(plain.view()))


class ExampleTest(ExactCase):
    def test_first_example_of_section_7(self):
        bench = Bench((1, ((0, 1, 2), (1, 1, 1), (2, 2, 2)), (0, 1, -1)))
        results = [
            bench.first_fault(), bench.say(1, 0), bench.first_fault(), bench.say(2, 0),
            bench.first_fault(), bench.tells("", "aa"), bench.drop(2), bench.comp, bench.undo(),
            bench.turn(),
        ]
        expected = (
            "[None, 1, ('', 'a'), 2, None, 0, 3, (1, ((0, 1, 0), (1, 1, 1)), (0, 0)), 2, 3]"
        )
        self.assertEqual(repr(results), expected)

    def test_second_example_of_section_7(self):
        bench = Bench((1, ((0, 0, 0),), (0,)))
        results = [
            bench.grow(0), bench.link(0, "a.", 1), bench.say(1, 1), bench.tells("aa", "a"),
            bench.undo(), bench[1], bench.redo(), bench.edits(),
        ]
        expected = "[1, 2, 3, 1, 2, 0, 3, (('grow', 0), ('link', 0, 'a.', 1), ('say', 1, 1))]"
        self.assertEqual(repr(results), expected)


class InterfaceTest(ExactCase):
    METHODS = {
        "link": ["state", "column", "target"], "say": ["state", "verdict"], "grow": ["state"],
        "drop": ["state"], "turn": [], "undo": [], "redo": [], "attempt": ["edits", "watch"],
        "first_fault": [], "tells": ["one", "other"], "sorted_by": ["words"],
        "comp_at": ["version"], "edits": [],
    }
    OPERATORS = ("__getitem__", "__setitem__", "__iadd__", "__isub__", "__len__", "__str__", "__eq__")

    def test_methods_are_defined_in_the_class(self):
        for kind in (Bench, OrderBench):
            for name, names in self.METHODS.items():
                self.assertEqual(list(inspect.signature(vars(kind)[name]).parameters), ["self"] + names)
            for name in (*self.METHODS, *self.OPERATORS, "__init__"):
                # In its own body: not inherited, and not a name for what another class defines.
                self.assertEqual(vars(kind)[name].__qualname__, f"{kind.__name__}.{name}")
            self.assertEqual(list(inspect.signature(kind).parameters), ["comp"])

    def test_classes_are_defined_in_the_file(self):
        self.assertEqual(Bench.__module__, "surelyorders.benches")
        self.assertEqual(OrderBench.__module__, "surelyorders.benches")
        self.assertIs(benches.Bench, Bench)
        self.assertTrue(issubclass(OrderBench, Bench))
        self.assertFalse(issubclass(Bench, OrderBench))

    def test_keywords_alone(self):
        for bench in (Bench(PLAIN), OrderBench(PLAIN)):
            for name, parameter in (("attempt", "watch"), ("comp_at", "version")):
                found = inspect.signature(getattr(bench, name)).parameters[parameter]
                self.assertIs(found.kind, inspect.Parameter.KEYWORD_ONLY)
                self.assertIsNone(found.default)

    def test_most_edits(self):
        for holder in (Bench, OrderBench, Bench(PLAIN), OrderBench(PLAIN)):
            self.assert_exactly(holder.MOST_EDITS, MAX_EDITS)

    def test_comp_is_set_when_the_object_is_created(self):
        self.assertIn("comp", vars(Bench(PLAIN)))
        self.assertIn("comp", vars(OrderBench(PLAIN)))
        self.assert_exactly(Bench(PLAIN).comp, PLAIN)

    def test_arguments_by_name(self):
        bench = Bench(comp=NEVER)
        results = [
            bench.grow(state=0), bench.link(target=1, column="a.", state=0),
            bench.say(verdict=1, state=1), bench.tells(other="a", one="aa"), bench.drop(state=1),
            bench.attempt(watch=None, edits=[("turn",)]), bench.attempt(edits=()),
            bench.sorted_by(words=("a", "")), bench.comp_at(version=1), bench.comp_at(version=None),
        ]
        grown = (1, ((0, 0, 0), (0, 0, 0)), (0, 0))
        expected = [1, 2, 3, 1, 4, 1, 0, ("a", ""), grown, NEVER]
        self.assertEqual(repr(results), repr(expected))

    def test_arguments_by_name_of_both_classes(self):
        grown = (1, ((0, 0, 0), (0, 0, 0)), (0, 0))
        linked = (1, ((0, 1, 0), (0, 0, 0)), (0, 0))
        for kind in (Bench, OrderBench):
            bench = kind(comp=NEVER)
            results = [
                bench.grow(state=0), bench.link(target=1, column="a.", state=0),
                bench.say(verdict=0, state=1), bench.tells(other="a", one="aa"),
                bench.comp_at(version=1), bench.comp_at(version=2), bench.drop(state=1),
                bench.attempt(watch=lambda held: True, edits=[("turn",), ("turn",)]),
                bench.attempt(edits=()), bench.sorted_by(words=("a", "")),
                bench.comp_at(version=None), bench.edits()[3:],
            ]
            expected = [
                1, 2, 3, 0, grown, linked, 4, 1, 0, ("a", ""), NEVER,
                (("drop", 1), ("attempt", (("turn",),))),
            ]
            self.assertEqual(repr(results), repr(expected))


class MadeTest(BenchCase):
    def test_bad_comparisons(self):
        for value, error in (
            (None, (None, "comp")), ([], (None, "comp")), (list(PLAIN), (None, "comp")),
            ((0,) + PLAIN[1:], (None, "letters")), ((True,) + PLAIN[1:], (None, "letters")),
            ((1, (), ()), (None, "rows")), ((1, ((0, 0, 0), [0, 0, 0]), (0, 0)), (1, "row")),
            ((1, ((0, 0, 0),), (2,)), (None, "verdicts")), ((1, ((0, 0, 0),), [0]), (None, "verdicts")),
        ):
            for kind in (Bench, OrderBench):
                name, fields = outcome(kind, value)
                self.assertEqual((name, list(fields)), ("BadComp", ["error"]))
                self.assert_exactly(fields["error"], error)

    def test_any_values(self):
        for value in any_values():
            self.assertEqual(outcome(Bench, value), ("BadComp", {"error": (None, "comp")}))

    def test_too_great(self):
        chance = random.Random(111)
        self.assertEqual(len(Bench(random_comp(chance, 1, MAX_STATES)).comp[1]), MAX_STATES)
        great = random_comp(chance, 1, MAX_STATES + 1)
        self.assertEqual(outcome(Bench, great), ("TooGreat", {}))
        self.assertEqual(outcome(OrderBench, great), ("TooGreat", {}))
        # What is wrong with the comparison comes first.
        wrong = great[:2] + (great[2][:-1] + (5,),)
        self.assertEqual(outcome(Bench, wrong), ("BadComp", {"error": (None, "verdicts")}))

    def test_a_new_bench(self):
        bench = Bench(PLAIN)
        self.assertEqual(repr(view_of(bench)), repr(PlainBench(PLAIN).view()))
        self.assert_exactly(outcome(bench.undo), ("NothingToUndo", {}))
        self.assert_exactly(outcome(bench.redo), ("NothingToRedo", {}))

    def test_an_argument_that_is_changed_later(self):
        # A comparison holds no list; one that holds a list is none, and is not kept.
        rows = [(0, 0, 0)]
        self.assertEqual(outcome(Bench, (1, rows, (0,)))[0], "BadComp")
        items = [("turn",)]
        bench = Bench(PLAIN)
        bench.attempt(items)
        items.append(("say", 0, 1))
        items[0] = None
        self.assert_exactly(bench.edits(), (("attempt", (("turn",),)),))
        bench.undo()
        self.assert_exactly(bench.redo(), 1)


class EditsTest(BenchCase):
    def test_link(self):
        bench = Bench(TWO)
        self.assert_exactly(bench.link(0, "aa", 1), 1)
        self.assert_exactly(bench.comp, (1, ((1, 1, 1), (1, 1, 0)), (0, 1)))
        self.assert_exactly(bench.link(1, ".a", 1), 2)
        self.assert_exactly(bench.comp, (1, ((1, 1, 1), (1, 1, 1)), (0, 1)))
        self.assert_exactly(bench.link(0, "a.", 0), 3)
        self.assert_exactly(bench.comp, (1, ((1, 0, 1), (1, 1, 1)), (0, 1)))

    def test_link_of_every_column(self):
        for letters in (1, 2, 3):
            width = len(COLUMNS[letters])
            for place, column in enumerate(columns(letters)):
                bench = Bench((letters, ((0,) * width, (0,) * width), (0, 0)))
                bench.link(1, column, 1)
                row = (0,) * place + (1,) + (0,) * (width - place - 1)
                self.assert_exactly(bench.comp, (letters, ((0,) * width, row), (0, 0)))

    def test_say(self):
        bench = Bench(TWO)
        self.assert_exactly([bench.say(0, -1), bench.comp], [1, (1, TWO[1], (-1, 1))])
        self.assert_exactly([bench.say(1, 0), bench.comp], [2, (1, TWO[1], (-1, 0))])

    def test_grow(self):
        bench = Bench(TWO)
        self.assert_exactly(bench.grow(1), 1)
        self.assert_exactly(bench.comp, (1, TWO[1] + ((1, 1, 0),), (0, 1, 1)))
        self.assert_exactly(bench.grow(0), 2)
        self.assert_exactly(bench.comp, (1, TWO[1] + ((1, 1, 0), (0, 1, 1)), (0, 1, 1, 0)))

    def test_drop(self):
        bench = Bench((1, ((0, 1, 2), (3, 2, 1), (2, 3, 0), (1, 1, 3)), (0, 1, -1, 1)))
        self.assert_exactly(bench.drop(1), 1)
        self.assert_exactly(bench.comp, (1, ((0, 0, 1), (1, 2, 0), (0, 0, 2)), (0, -1, 1)))
        self.assert_exactly(bench.drop(2), 2)
        self.assert_exactly(bench.comp, (1, ((0, 0, 1), (1, 0, 0)), (0, -1)))
        self.assert_exactly(bench.drop(1), 3)
        self.assert_exactly(bench.comp, NEVER)

    def test_turn(self):
        bench = Bench(PLAIN)
        self.assert_exactly([bench.turn(), bench.comp], [1, (1, PLAIN[1], (0, -1, 1))])
        self.assert_exactly([bench.turn(), bench.comp], [2, PLAIN])

    def test_what_changes_nothing_is_an_edit_all_the_same(self):
        bench = Bench(NEVER)
        results = [bench.link(0, "aa", 0), bench.say(0, 0), bench.turn(), len(bench)]
        self.assert_exactly(results, [1, 2, 3, 3])
        self.assert_exactly(bench.comp, NEVER)
        self.assertEqual(len(bench.edits()), 3)

    def test_of_one_letter_and_of_three(self):
        # What a bench is for is not told by its letters: 3 letters have other columns.
        bench = Bench(by_ranks(3, (0, 1, 2)))
        self.assert_exactly(bench.link(0, "cb", 1), 1)
        self.assert_exactly(bench.tells("c", "b"), -1)
        self.assert_exactly(bench.tells("b", "c"), -1)


class ErrorsTest(BenchCase):
    def edits_with_wrong_state(self, bench, value):
        return (
            lambda: bench.link(value, "aa", 0), lambda: bench.link(value, "..", 99),
            lambda: bench.say(value, 0), lambda: bench.say(value, 5), lambda: bench.grow(value),
            lambda: bench.drop(value), lambda: bench[value], lambda: bench.__setitem__(value, 0),
        )

    def test_no_state(self):
        bench = Bench(PLAIN)
        bench.turn()
        bench.turn()
        bench.undo()
        for value in any_values() + [3, -3, [1], (1,), "1", {1: 1}]:
            for call in self.edits_with_wrong_state(bench, value):
                self.assert_raises(bench, call, "NoState", state=value)

    def test_the_very_objects(self):
        bench = Bench(PLAIN)
        for value in ([1], {"a": [2]}, (None, [3]), "ab" * 100):
            for call in self.edits_with_wrong_state(bench, value):
                self.assertIs(outcome(call)[1]["state"], value)
            self.assertIs(outcome(bench.link, 0, value, 0)[1]["column"], value)
            self.assertIs(outcome(bench.link, 0, "aa", value)[1]["state"], value)
            self.assertIs(outcome(bench.say, 0, value)[1]["verdict"], value)
            self.assertIs(outcome(bench.tells, value, "")[1]["word"], value)
            self.assertIs(outcome(bench.sorted_by, value)[1]["words"], value)
            self.assertIs(outcome(bench.comp_at, version=value)[1]["version"], value)

    def test_no_column(self):
        bench = Bench(PLAIN)
        wrong = any_values()
        wrong.remove("aa")
        for column in wrong + ["..", "ab", "b.", ".b", "a", ".", "aaa", "aa ", "AA", ("a", "a"), ["aa"]]:
            self.assert_raises(bench, lambda: bench.link(0, column, 0), "NoColumn", column=column)
            # The column comes ahead of the target.
            self.assert_raises(bench, lambda: bench.link(0, column, 9), "NoColumn", column=column)
            self.assert_raises(bench, lambda: bench.link(9, column, 9), "NoState", state=9)

    def test_columns_of_the_comparison_alone(self):
        for letters in (1, 2, 3):
            bench = Bench(by_length(letters))
            for column in COLUMNS[3]:
                if column in COLUMNS[letters]:
                    bench.link(0, column, 0)
                    bench.undo()
                else:
                    self.assertEqual(outcome(bench.link, 0, column, 0), ("NoColumn", {"column": column}))

    def test_no_target(self):
        bench = Bench(PLAIN)
        for target in any_values() + [3, -1, -3]:
            self.assert_raises(bench, lambda: bench.link(0, "aa", target), "NoState", state=target)

    def test_bad_verdict(self):
        bench = Bench(PLAIN)
        for verdict in [value for value in any_values() if value is True or value != -1] + [2, -2, "1"]:
            self.assert_raises(bench, lambda: bench.say(0, verdict), "BadVerdict", verdict=verdict)
            self.assert_raises(
                bench, lambda: bench.__setitem__(0, verdict), "BadVerdict", verdict=verdict)

    def test_too_great(self):
        chance = random.Random(112)
        bench = Bench(random_comp(chance, 1, MAX_STATES - 1))
        self.assert_exactly(bench.grow(MAX_STATES - 2), 1)
        self.assertEqual(len(bench.comp[1]), MAX_STATES)
        self.assert_raises(bench, lambda: bench.grow(0), "TooGreat")
        self.assert_raises(bench, lambda: bench.grow(MAX_STATES), "NoState", state=MAX_STATES)
        bench.drop(7)
        self.assert_exactly(bench.grow(0), 3)

    def test_bad_drop(self):
        bench = Bench(PLAIN)
        self.assert_raises(bench, lambda: bench.drop(0), "BadDrop", state=0)
        self.assert_raises(Bench(NEVER), lambda: Bench(NEVER).drop(0), "BadDrop", state=0)
        self.assert_raises(bench, lambda: bench.drop(False), "NoState", state=False)

    def test_too_many_edits(self):
        bench = Bench(PLAIN)
        for version in range(1, MAX_EDITS + 1):
            self.assert_exactly(bench.turn(), version)
        same = bench
        for call in (
            bench.turn, lambda: bench.link(9, "..", 9), lambda: bench.say(9, 9),
            lambda: bench.grow(9), lambda: bench.drop(0), lambda: bench.__setitem__(9, 9),
            lambda: bench.__iadd__(None), lambda: bench.__isub__(None),
            lambda: bench.attempt([("turn",)]), lambda: bench.attempt((("say", 9, 9),)),
        ):
            self.assert_raises(bench, call, "TooManyEdits")
        # No edit, and so not too many; what no attempt is comes first.
        self.assert_exactly(bench.attempt([]), 0)
        self.assert_exactly(outcome(bench.attempt, None), ("BadEdits", {}))
        self.assert_exactly(outcome(bench.attempt, [None]), ("BadEdit", {"index": 0}))
        self.assert_exactly(bench.undo(), MAX_EDITS - 1)
        self.assert_exactly(bench.redo(), MAX_EDITS)
        self.assert_exactly(bench.undo(), MAX_EDITS - 1)
        self.assert_exactly(bench.say(0, 0), MAX_EDITS)
        self.assertIs(bench, same)


class OperatorsTest(BenchCase):
    def test_items(self):
        bench = Bench(PLAIN)
        self.assert_exactly([bench[0], bench[1], bench[2]], [0, 1, -1])
        bench[1] = -1
        bench[2] = 1
        self.assert_exactly(bench.comp, (1, PLAIN[1], (0, -1, 1)))
        self.assert_exactly(bench.edits(), (("say", 1, -1), ("say", 2, 1)))
        self.assert_exactly(len(bench), 2)
        for value in (-1, 3, True, None, "0", (0,), [0]):
            self.assert_raises(bench, lambda: bench[value], "NoState", state=value)

    def test_behind_and_ahead(self):
        short, rising = by_length(2), by_ranks(2, (0, 1))
        bench = same = Bench(short)
        bench += rising
        self.assertIs(bench, same)
        self.assert_exactly(bench.comp, then(short, rising))
        bench -= turned(rising)
        self.assertIs(bench, same)
        self.assert_exactly(bench.comp, then(turned(rising), then(short, rising)))
        self.assert_exactly(bench.edits(), (("behind", rising), ("ahead", turned(rising))))
        self.assert_exactly([bench.undo(), bench.comp], [1, then(short, rising)])

    def test_what_they_tell(self):
        chance = random.Random(113)
        for _ in range(40):
            letters = chance.randrange(1, 3)
            one, other = random_comp(chance, letters, 3), random_comp(chance, letters, 3)
            behind, ahead = Bench(one), Bench(one)
            behind += other
            ahead -= other
            for first in words(letters, 2):
                for second in words(letters, 2):
                    verdicts = [told(one, first, second), told(other, first, second)]
                    found = [verdict for verdict in verdicts if verdict != 0] or [0]
                    self.assert_exactly(behind.tells(first, second), found[0])
                    found = [verdict for verdict in verdicts[::-1] if verdict != 0] or [0]
                    self.assert_exactly(ahead.tells(first, second), found[0])

    def test_errors(self):
        bench = Bench(by_length(2))
        bench.turn()
        great = then(random_comp(random.Random(114), 2, 40), random_comp(random.Random(115), 2, 40))
        self.assertGreater(len(great[1]), 1000)
        for do in (bench.__iadd__, bench.__isub__):
            for value in any_values():
                self.assert_raises(bench, lambda: do(value), "BadComp", error=(None, "comp"))
            self.assert_raises(bench, lambda: do((1, ((0, 0, 1),), (0,))), "BadComp", error=(0, "row"))
            self.assert_raises(bench, lambda: do(PLAIN), "Unlike")
            self.assert_raises(bench, lambda: do(by_length(3)), "Unlike")
            self.assert_raises(bench, lambda: do(great), "TooGreat")
            # Unlike comes ahead of what would come.
            self.assert_raises(bench, lambda: do(random_comp(random.Random(116), 1, 90)), "Unlike")

    def test_by_their_signs(self):
        bench = Bench(by_length(2))
        with self.assertRaises(ValueError):
            bench += PLAIN
        with self.assertRaises(ValueError):
            bench -= None
        self.assert_exactly([type(bench), len(bench)], [Bench, 0])

    def test_the_comparison_may_have_more_states(self):
        # 90 states, but no column leads to more than two of them.
        many = (1, ((0, 1, 1),) + ((1, 1, 1),) * 89, (0,) + (1,) * 89)
        bench = Bench(NEVER)
        bench += many
        self.assert_exactly(bench.comp, (1, ((0, 1, 1), (1, 1, 1)), (0, 1)))
        bench -= many
        self.assert_exactly(bench.comp, (1, ((0, 1, 1), (1, 1, 1)), (0, 1)))

    def test_just_as_many_states_as_may_be(self):
        def ring(states):
            # Each column leads to the next state: two rings come to as many pairs as their
            # states' least common multiple.
            rows = tuple([((state + 1) % states,) * 3 for state in range(states)])
            return (1, rows, (0,) * states)
        for one, other, most in ((8, 5, 40), (5, 8, 40), (40, 40, 40), (40, 20, 40), (3, 13, 39)):
            behind, ahead = Bench(ring(one)), Bench(ring(one))
            behind += ring(other)
            ahead -= ring(other)
            self.assertEqual([len(behind.comp[1]), len(ahead.comp[1])], [most, most])
        for one, other in ((6, 7), (40, 3), (3, 40), (40, 41), (1, 41)):
            bench = Bench(ring(one))
            self.assert_raises(bench, lambda: bench.__iadd__(ring(other)), "TooGreat")
            self.assert_raises(bench, lambda: bench.__isub__(ring(other)), "TooGreat")


class UndoTest(BenchCase):
    def test_there_and_back(self):
        bench = Bench(PLAIN)
        bench.say(0, 1)
        bench.say(0, -1)
        self.assert_exactly([bench.undo(), bench.comp[2]], [1, (1, 1, -1)])
        self.assert_exactly([bench.undo(), bench.comp[2]], [0, (0, 1, -1)])
        self.assert_raises(bench, bench.undo, "NothingToUndo")
        self.assert_exactly([bench.redo(), bench.comp[2]], [1, (1, 1, -1)])
        self.assert_exactly([bench.redo(), bench.comp[2]], [2, (-1, 1, -1)])
        self.assert_raises(bench, bench.redo, "NothingToRedo")

    def test_a_new_edit_forgets(self):
        for edit in (
            lambda bench: bench.turn(), lambda bench: bench.say(0, 0),
            lambda bench: bench.__setitem__(0, 0), lambda bench: bench.__iadd__(PLAIN),
            lambda bench: bench.attempt([("turn",)]),
        ):
            bench = Bench(PLAIN)
            bench.turn()
            bench.turn()
            bench.undo()
            bench.undo()
            edit(bench)
            self.assert_raises(bench, bench.redo, "NothingToRedo")
            self.assert_exactly(len(bench), 1)

    def test_what_is_no_edit_forgets_nothing(self):
        bench = Bench(PLAIN)
        bench.say(0, 1)
        bench.undo()
        for call in (
            lambda: bench.say(9, 9), lambda: bench.drop(0), lambda: bench.__iadd__(None),
            lambda: bench.attempt([]), lambda: bench.attempt(()), lambda: bench.attempt(None),
            lambda: bench.attempt([("say", 0, 9)]), lambda: bench.attempt([("turn",), ("drop", 0)]),
            bench.first_fault, lambda: bench.tells("", "a"), lambda: bench.sorted_by(("a",)),
            bench.comp_at, bench.edits, lambda: len(bench), lambda: str(bench), lambda: bench == 1,
        ):
            outcome(call)
            self.assertEqual(len(undone_and_redone(bench)), 1)
        self.assert_exactly([bench.redo(), bench[0]], [1, 1])


class QueriesTest(BenchCase):
    def test_first_fault(self):
        for comp, fault in (
            (PLAIN, None), (NO_SELF, ""), (NO_TURN, ("", "a")), (NO_CHAIN, ("aa", "a", "")),
            ((1, ((1, 0, 0), (0, 0, 0)), (0, 1)), "a"),
        ):
            bench = Bench(comp)
            self.assert_exactly(bench.first_fault(), fault)
            self.assert_exactly(bench.first_fault(), fault)

    def test_first_fault_behind_edits(self):
        chance = random.Random(117)
        bench = Bench(random_order(chance, 2))
        for _ in range(40):
            item = random_item(chance, bench.comp)
            outcome(do_edit, bench, item)
            self.assert_exactly(bench.first_fault(), fault_of(bench.comp))
            if chance.random() < 0.3 and len(bench) > 0:
                bench.undo()
                self.assert_exactly(bench.first_fault(), fault_of(bench.comp))

    def test_tells(self):
        chance = random.Random(118)
        for _ in range(30):
            comp = random_comp(chance, chance.randrange(1, 4), 4)
            bench = Bench(comp)
            for _ in range(20):
                one, other = random_word(chance, comp[0], 6), random_word(chance, comp[0], 6)
                self.assert_exactly(bench.tells(one, other), told(comp, one, other))

    def test_bad_words(self):
        bench = Bench(by_ranks(2, (0, 1)))
        wrong = [value for value in any_values() if not isinstance(value, str) or value not in ("", "a", "aa")]
        wrong += ["c", "ab.", "abc", "A", " ", "a b", "a\n", "-", "a" * (MAX_LENGTH + 1), ("a",), ["a"]]
        for word in wrong:
            for one, other in ((word, ""), ("", word), (word, word), (word, None)):
                name, fields = outcome(bench.tells, one, other)
                self.assertEqual((name, list(fields)), ("BadWord", ["word"]))
                self.assertIs(fields["word"], word)
            self.assertIs(outcome(bench.sorted_by, (word,))[0], "BadList")
        self.assert_exactly(bench.tells("b" * MAX_LENGTH, "b" * MAX_LENGTH), 0)
        self.assert_exactly(Bench(by_length(3)).tells("c", "ab"), -1)
        self.assertEqual(outcome(Bench(PLAIN).tells, "b", "c"), ("BadWord", {"word": "b"}))
        with self.assertRaises(BadWord) as caught:
            bench.tells("ab", "abc")
        self.assert_exactly(caught.exception.word, "abc")

    def test_sorted_by(self):
        chance = random.Random(119)
        for _ in range(40):
            comp = some_comp(chance, 2, 6)
            bench = Bench(comp)
            words_read = tuple([random_word(chance, 2, 4) for _ in range(chance.randrange(12))])
            expected = outcome(sorted_by, comp, words_read)
            self.assert_exactly(outcome(bench.sorted_by, words_read), expected)

    def test_bad_lists(self):
        wrong = [value for value in any_values() if value != ()]
        wrong += [["a"], "a", {"a": 1}, ("a",) * (MAX_LIST + 1), ("a", "b"), ("a", None), ("a", ["a"]),
                  ("a" * (MAX_LENGTH + 1),), ("a", ""  " "), (("a",),), ("a", True)]
        # What is no list comes ahead of the fault.
        for bench in (Bench(PLAIN), Bench(NO_TURN)):
            for value in wrong:
                with self.assertRaises(BadList) as caught:
                    bench.sorted_by(value)
                self.assertIs(caught.exception.words, value)
        full = ("a" * MAX_LENGTH,) * MAX_LIST
        self.assert_exactly(Bench(PLAIN).sorted_by(full), full)
        self.assertEqual(outcome(Bench(NO_TURN).sorted_by, ()), ("Faulty", {"fault": ("", "a")}))
        self.assertEqual(outcome(Bench(NO_SELF).sorted_by, ("a",)), ("Faulty", {"fault": ""}))

    def test_comp_at(self):
        bench = Bench(PLAIN)
        bench.say(0, 1)
        bench.attempt([("turn",), ("grow", 0)])
        bench.drop(1)
        bench.undo()
        first, second = (1, PLAIN[1], (1, 1, -1)), (1, PLAIN[1] + PLAIN[1][:1], (-1, -1, 1, -1))
        self.assert_exactly(
            [bench.comp_at(version=version) for version in (0, 1, 2, None)],
            [PLAIN, first, second, second])
        self.assert_exactly(bench.comp_at(), second)
        for version in [value for value in any_values() if value is not None] + [3, -2, "0", (0,)]:
            self.assert_raises(
                bench, lambda: bench.comp_at(version=version), "NoVersion", version=version)
        with self.assertRaises(NoVersion):
            Bench(PLAIN).comp_at(version=1)
        self.assert_exactly(Bench(PLAIN).comp_at(version=0), PLAIN)

    def test_edits(self):
        bench = Bench(by_length(1))
        self.assert_exactly(bench.edits(), ())
        bench.link(0, "aa", 2)
        bench[1] = 0
        bench.grow(1)
        bench.drop(2)
        bench.turn()
        bench += NEVER
        bench -= PLAIN
        bench.attempt((("turn",), ("behind", PLAIN)))
        bench.attempt([("say", 0, 0)])
        self.assert_exactly(bench.edits(), (
            ("link", 0, "aa", 2), ("say", 1, 0), ("grow", 1), ("drop", 2), ("turn",),
            ("behind", NEVER), ("ahead", PLAIN), ("attempt", (("turn",), ("behind", PLAIN))),
            ("attempt", (("say", 0, 0),)),
        ))
        bench.undo()
        self.assertEqual(len(bench.edits()), 8)


class LenStrEqualTest(BenchCase):
    def test_len_and_str(self):
        bench = Bench(PLAIN)
        self.assert_exactly([len(bench), str(bench), bool(bench)], [0, "1 letters, 3 states, 0 edits", False])
        bench.grow(0)
        self.assert_exactly([len(bench), str(bench), bool(bench)], [1, "1 letters, 4 states, 1 edits", True])
        bench.attempt([("turn",), ("drop", 1), ("drop", 1), ("drop", 1)])
        self.assert_exactly([len(bench), str(bench), f"{bench}"], [2, "1 letters, 1 states, 2 edits"] + [str(bench)])
        self.assertEqual(str(Bench(by_length(3))), "3 letters, 3 states, 0 edits")
        bench.undo()
        bench.undo()
        self.assert_exactly([len(bench), bool(bench)], [0, False])

    def test_equal_benches(self):
        one, other = Bench(PLAIN), Bench(copy.deepcopy(PLAIN))
        self.assert_exactly([one == other, one != other], [True, False])
        one.turn()
        self.assert_exactly([one == other, one != other], [False, True])
        other.attempt([("grow", 0), ("drop", 3), ("turn",)])
        self.assert_exactly([one == other, one != other], [True, False])
        one.turn()
        one.undo()
        self.assert_exactly([one == other, other == one, one == one], [True, True, True])

    def test_the_same_tuples(self):
        # They tell the same of all words, but are not the same.
        dead = (1, ((0, 0, 0), (1, 1, 1)), (0, 1))
        self.assert_exactly(Bench(NEVER) == Bench(dead), False)

    def test_not_equal_to_anything_else(self):
        class Agreeing:
            def __eq__(self, other):
                return True

        bench = Bench(PLAIN)
        for value in any_values() + [PLAIN, list(PLAIN), str(bench), Agreeing(), Bench, 0]:
            self.assert_exactly([bench == value, bench != value], [False, True])
        self.assert_exactly(bench in [PLAIN, None, "a"], False)


class RandomRunTest(BenchCase):
    def run_both(self, bench, plain, chance, others):
        """Do the same on both."""
        way = chance.random()
        if way < 0.12:
            return outcome(bench.undo), self.plain_outcome(plain.undo)
        if way < 0.2:
            return outcome(bench.redo), self.plain_outcome(plain.redo)
        if way < 0.35:
            comp, items = bench.comp, []
            for _ in range(chance.choice((0, 1, 2, 3, 5, BATCH, BATCH + 1))):
                items.append(random_item(chance, comp, others))
                comp = self.behind(comp, items[-1])
            kind = chance.choice((list, tuple))
            most = chance.choice((None, None, 1, 2, 4))
            watch = None if most is None else lambda held: len(held.edits()[-1][1]) == most
            return (
                outcome(bench.attempt, kind(items), watch=watch),
                self.plain_outcome(plain.attempt, items, most))
        item = random_item(chance, bench.comp, others)
        return outcome(do_edit, bench, item), self.plain_outcome(plain.edit, item)

    def behind(self, comp, item):
        try:
            return edited(comp, item)
        except Refused:
            return comp

    def plain_outcome(self, call, *arguments):
        try:
            return ("returned", call(*arguments))
        except Refused as refused:
            return refused.told

    def test_runs(self):
        chance = random.Random(120)
        names = set()
        for _ in range(60):
            letters = chance.randrange(1, 4)
            first = random_comp(chance, letters, chance.randrange(1, 6))
            others = [random_order(chance, chance.choice((letters, letters, 1))) for _ in range(3)]
            bench, plain = Bench(first), PlainBench(first)
            for _ in range(chance.choice((20, 60, 150))):
                result, expected = self.run_both(bench, plain, chance, others)
                self.assertEqual(repr(result), repr(expected))
                names.add(result[0])
            self.assert_shows(bench, plain)
            self.assertEqual(repr(undone_and_redone(bench)), repr(undone_and_redone(plain)))
            # Guarantee (f).
            again = replayed(first, bench.edits(), Bench)
            self.assertEqual(repr(view_of(again)), repr(view_of(bench)))
            self.assert_exactly(again == bench, True)
        for name in ("returned", "NoState", "NoColumn", "BadVerdict", "BadDrop", "BadComp", "Unlike",
                     "NothingToUndo", "NothingToRedo", "Rejected", "BadEdits", "TooManyEdits"):
            self.assertIn(name, names)


if __name__ == "__main__":
    unittest.main()
