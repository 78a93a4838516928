"""Point [7]: paper and paper_holds of surelyorders/faults.py."""

import copy
import itertools
import random
import unittest

from surelyorders.comps import columns, comp_error, tells
from surelyorders.faults import (
    chain_fault, is_order, paper, paper_holds, self_fault, turn_fault,
)
from surelyorders.makings import by_length, by_ranks, then
from tests.plain import (
    COLUMNS, NEVER, PLAIN, ExactCase, bent, random_comp, random_order, some_comp, with_dead_states,
)

# By which words each state of an item is read.
READ = {1: ((0, 0),), 2: ((0, 1), (1, 0)), 3: ((0, 1), (1, 2), (0, 2))}


def items_behind(comp, item):
    """All items behind a step from the item, which is a tuple of ends and states."""
    letters, rows, _ = comp
    ends, states = item[0], item[1:]
    choices = ["." if ended else "abc"[:letters] + "." for ended in ends]
    for step in itertools.product(*choices):
        if step == (".",) * len(ends):
            continue
        nexts = []
        for state, (first, second) in zip(states, READ[len(ends)]):
            pair = step[first] + step[second]
            nexts.append(state if pair == ".." else rows[state][COLUMNS[letters].index(pair)])
        yield (tuple([sign == "." for sign in step]),) + tuple(nexts)


def is_state(comp, value):
    return type(value) is int and 0 <= value < len(comp[1])


def is_plain_item(comp, value, many):
    """Whether the value is a tuple of ends for so many words and of as many states."""
    if type(value) is not tuple or len(value) != many + 1:
        return False
    if type(value[0]) is not tuple or len(value[0]) != many:
        return False
    if [end for end in value[0] if type(end) is not bool]:
        return False
    return all([is_state(comp, state) for state in value[1:]])


def is_sound(comp, many, item):
    """Whether the verdicts of an item are as they must be."""
    verdicts = [comp[2][state] for state in item[1:]]
    if many == 1:
        return verdicts == [0]
    if many == 2:
        return verdicts[0] == -verdicts[1]
    return not (verdicts[0] <= 0 and verdicts[1] <= 0 and verdicts[2] == 1)


def plain_holds(comp, value):
    """What the document says of a paper, word for word."""
    if type(value) is not tuple or len(value) != 3:
        return False
    for many, part in zip((1, 2, 3), value):
        if type(part) is not tuple:
            return False
        items = [((False,), item) for item in part] if many == 1 else list(part)
        if not all([is_plain_item(comp, item, many) for item in items]):
            return False
        if items != sorted(set(items)):
            return False
        held = set(items)
        if ((False,) * many,) + (0,) * many not in held:
            return False
        for item in items:
            if not is_sound(comp, many, item):
                return False
            if not held.issuperset(items_behind(comp, item)):
                return False
    return True


def replaced(value, at, new):
    """The tuple with one part replaced; at is the way to it."""
    if not at:
        return new
    return value[:at[0]] + (replaced(value[at[0]], at[1:], new),) + value[at[0] + 1:]


def ways(value):
    """The ways to all parts of a tuple of tuples."""
    yield ()
    if type(value) is tuple:
        for index, part in enumerate(value):
            for way in ways(part):
                yield (index,) + way


def part_at(value, way):
    for index in way:
        value = value[index]
    return value


def changes(chance, part):
    """Other values for a part of a paper."""
    odd = [None, True, False, 0, 1, -1, 2, 40, 10 ** 59, "", "a", (), [], {}, (0,), (part,), [part]]
    if type(part) is bool:
        odd += [int(part), not part, (part,)]
    elif type(part) is int:
        odd += [part + 1, part - 1, bool(part), -part, str(part), (part,)]
    elif type(part) is tuple:
        odd += [list(part), part[::-1], part[:-1], part[1:], part + part, part * 2, dict.fromkeys(part)]
        odd += [part + part[-1:], part[:1] + part, part + (0,), part + (None,), part + (False,)]
        if len(part) > 1:
            one, two = sorted(chance.sample(range(len(part)), 2))
            exchanged = list(part)
            exchanged[one], exchanged[two] = exchanged[two], exchanged[one]
            odd += [tuple(exchanged), part[:one] + part[one + 1:], part[:two] + (part[one],) + part[two:]]
    return odd


class PaperCase(ExactCase):
    def assert_paper(self, comp):
        """The paper of an order: it is one, for the plain check too, and holds for this comp."""
        value = self.checked(paper, comp)
        self.assertIsNotNone(value)
        self.assertIs(plain_holds(comp, value), True)
        self.assert_exactly(self.checked(paper_holds, comp, value), True)
        self.assert_kinds(value)
        return value

    def assert_kinds(self, value):
        self.assertEqual([type(part) for part in value], [tuple] * 3)
        self.assertEqual({type(state) for state in value[0]}, {int})
        for item in value[1] + value[2]:
            self.assertIs(type(item), tuple)
            self.assertEqual({type(ended) for ended in item[0]}, {bool})
            self.assertEqual({type(state) for state in item[1:]}, {int})

    def assert_as_plain(self, comp, value):
        expected = plain_holds(comp, value)
        self.assert_exactly(paper_holds(comp, value), expected)
        return expected


class ExampleTest(PaperCase):
    def test_second_example_of_section_3(self):
        never = (1, ((0, 0, 0),), (0,))
        two = ((False, False), (False, True), (True, False))
        results = [
            paper_holds(never, ((0,), tuple([(ends, 0, 0) for ends in two]), ())),
            paper_holds(never, paper(never)),
            paper((1, ((0, 0, 0),), (1,))),
        ]
        self.assertEqual(repr(results), "[False, True, None]")


class PaperTest(PaperCase):
    def test_orders_and_others(self):
        chance = random.Random(80)
        orders = 0
        for _ in range(150):
            comp = some_comp(chance, chance.randrange(1, 4), 4)
            found = [fault(comp) for fault in (self_fault, turn_fault, chain_fault)]
            if found == [None] * 3:
                self.assert_paper(comp)
                orders += 1
            else:
                self.assertIsNone(self.checked(paper, comp))
        self.assertGreater(orders, 20)

    def test_one_state(self):
        for letters in (1, 2, 3):
            row = (0,) * len(COLUMNS[letters])
            self.assert_paper((letters, (row,), (0,)))
            for verdict in (-1, 1):
                self.assertIsNone(paper((letters, (row,), (verdict,))))

    def test_states_that_no_words_come_to(self):
        chance = random.Random(81)
        for letters in (1, 2, 3):
            for _ in range(5):
                self.assert_paper(with_dead_states(random_order(chance, letters, 0), chance, 3))

    def test_the_paper_of_never_written_out(self):
        def all_ends(many):
            return list(itertools.product((False, True), repeat=many))[:-1]
        turns = tuple([(ends, 0, 0) for ends in all_ends(2)])
        chains = tuple([(ends, 0, 0, 0) for ends in all_ends(3)])
        self.assert_exactly(paper_holds(NEVER, ((0,), turns, chains)), True)
        for many in range(len(turns)):
            self.assert_exactly(paper_holds(NEVER, ((0,), turns[:many], chains)), False)
        for many in range(len(chains)):
            self.assert_exactly(paper_holds(NEVER, ((0,), turns, chains[:many])), False)
        self.assert_exactly(paper_holds(NEVER, ((), turns, chains)), False)

    def test_comparisons_of_forty_states(self):
        chance = random.Random(82)
        comp = random_comp(chance, 1, 40, (0,))
        value = self.assert_paper(comp)
        for part in (1, 2):
            for _ in range(3):
                at = chance.randrange(len(value[part]))
                fewer = value[part][:at] + value[part][at + 1:]
                self.assert_as_plain(comp, replaced(value, (part,), fewer))
        wide = with_dead_states(then(by_length(3), by_ranks(3, (0, 1, 2))), chance, 33)
        self.assertEqual(len(wide[1]), 40)
        self.assert_paper(wide)

    def test_what_words_come_to_100000_of(self):
        chance = random.Random(83)
        comp = random_comp(chance, 3, 25, (0,))
        value = paper(comp)
        self.assertGreater(len(value[2]), 70000)
        self.assert_exactly(paper_holds(comp, value), True)
        for part in (1, 2):
            at = chance.randrange(len(value[part]))
            while not any([value[part][at] in items_behind(comp, item) for item in value[part]
                           if item != value[part][at]]):
                at = chance.randrange(len(value[part]))
            fewer = value[part][:at] + value[part][at + 1:]
            self.assert_exactly(paper_holds(comp, replaced(value, (part,), fewer)), False)
        swapped = value[2][1:2] + value[2][:1] + value[2][2:]
        self.assert_exactly(paper_holds(comp, (value[0], value[1], swapped)), False)


class AnyValueTest(PaperCase):
    def test_values_that_are_no_tuples_of_three(self):
        deep = ()
        for _ in range(19):
            deep = (deep,)
        for comp in (NEVER, PLAIN, by_ranks(3, (0, 1, 1))):
            for value in (
                None, True, False, 0, 1, -1, 10 ** 60 - 1, "", "abc", "x" * 3500, (), [], {}, deep,
                [deep], {"a": deep}, (0,), (0, 0), (0, 0, 0), ((), ()), ((), (), ()), ((), (), (), ()),
                list(paper(comp)), paper(comp)[:2], paper(comp) + ((),), {0: paper(comp)},
                (paper(comp),), dict(enumerate(paper(comp))), ("", "", ""), ((0,), "", ""),
                (deep, deep, deep), ([0], [], []), ({0: 0}, {}, {}), tuple(range(6000)), comp,
                ((0,), (((False, False), 0, 0),), (((False, False, False), 0, 0, 0),)),
                (((False,), 0),) + paper(comp)[1:], ((((False,), 0),),) + paper(comp)[1:],
                comp_error(()), columns(2), tells(comp, "", "a"),
            ):
                with self.subTest(comp=comp, value=value):
                    self.assert_as_plain(comp, value)
                    self.assert_exactly(paper_holds(comp, value), False)

    def test_lists_within(self):
        for comp in (NEVER, PLAIN):
            value = paper(comp)
            for at in (0, 1, 2):
                self.assert_exactly(paper_holds(comp, replaced(value, (at,), list(value[at]))), False)
            for at in (1, 2):
                for index, item in enumerate(value[at]):
                    for odd in (list(item), (list(item[0]),) + item[1:], item[0] + item[1:], item[1:],
                                item + (0,), item[:-1], (item[0],), {item: 0}, None, 0, "item"):
                        changed = replaced(value, (at, index), odd)
                        self.assert_exactly(paper_holds(comp, changed), False)

    def test_0_and_1_are_no_bools_and_bools_no_states(self):
        for comp in (NEVER, PLAIN, by_ranks(2, (0, 1))):
            value = paper(comp)
            for way in ways(value):
                part = part_at(value, way)
                if type(part) is bool:
                    changed = replaced(value, way, int(part))
                elif part == 0 or part == 1:
                    changed = replaced(value, way, bool(part))
                else:
                    continue
                # Equal for Python, and yet no paper.
                self.assertEqual(changed, value)
                self.assert_exactly(paper_holds(comp, changed), False)

    def test_papers_with_a_change_at_every_place(self):
        chance = random.Random(84)
        for comp in (NEVER, PLAIN, (1, ((0, 0, 0), (1, 0, 1)), (0, 0)),
                     (1, ((1, 1, 1), (0, 0, 0)), (0, 0))):
            value = paper(comp)
            for way in ways(value):
                for odd in changes(chance, part_at(value, way)):
                    self.assert_as_plain(comp, replaced(value, way, odd))

    def test_papers_with_changes_at_random(self):
        chance = random.Random(85)
        kept = 0
        for _ in range(40):
            comp = some_comp(chance, chance.randrange(1, 4), 4)
            value = paper(comp)
            if value is None:
                continue
            for _ in range(25):
                changed = value
                for _ in range(chance.choice((1, 1, 2))):
                    if type(changed) is not tuple:
                        break
                    way = chance.choice(list(ways(changed))[:4000])
                    changed = replaced(changed, way, chance.choice(changes(chance, part_at(changed, way))))
                kept += self.assert_as_plain(comp, changed)
        self.assertGreater(kept, 0)

    def test_the_value_stays_as_it_was(self):
        value = ([0], [((False, False), 0, 0)], {"a": [()]})
        kept = copy.deepcopy(value)
        self.assert_exactly(paper_holds(NEVER, value), False)
        self.assertEqual(repr(value), repr(kept))


class OtherPapersTest(PaperCase):
    """Papers that paper does not return, and what is none for a reason of its own."""

    def test_items_whose_words_have_all_ended(self):
        # State 3 is told 1 and state 4 told -1; no words come to them.
        comp = (1, PLAIN[1] + ((3, 3, 3), (4, 4, 4)), PLAIN[2] + (1, -1))
        selfs, turns, chains = paper(comp)
        two, three = (True, True), (True, True, True)
        for first, second in itertools.product(range(5), repeat=2):
            value = (selfs, tuple(sorted(turns + ((two, first, second),))), chains)
            expected = comp[2][first] == -comp[2][second]
            self.assert_exactly(paper_holds(comp, value), expected)
            self.assertIs(plain_holds(comp, value), expected)
        for states in itertools.product(range(5), repeat=3):
            value = (selfs, turns, chains + ((three,) + states,))
            first, second, third = [comp[2][state] for state in states]
            expected = not (first <= 0 and second <= 0 and third == 1)
            self.assert_exactly(paper_holds(comp, value), expected)
        for item in ((two, 0, 5), (two, -1, 0), (two, 0, True), ((1, 1), 0, 0), (three, 0, 0)):
            value = (selfs, tuple(sorted(turns + (item,))), chains)
            self.assert_exactly(paper_holds(comp, value), False)

    def test_items_that_no_words_come_to(self):
        comp = (1, ((0, 0, 0), (1, 1, 1), (2, 1, 1)), (0, 0, 0))
        value = paper(comp)
        self.assertEqual(value[0], (0,))
        self.assert_exactly(paper_holds(comp, ((0, 1),) + value[1:]), True)
        self.assert_exactly(paper_holds(comp, ((0, 1, 2),) + value[1:]), True)
        self.assert_exactly(paper_holds(comp, ((1, 2),) + value[1:]), False)
        self.assert_exactly(paper_holds(comp, ((0, 2, 1),) + value[1:]), False)
        self.assert_exactly(paper_holds(comp, ((0, 1, 1),) + value[1:]), False)
        self.assert_exactly(paper_holds(comp, ((0, 1, 2, 3),) + value[1:]), False)
        every = tuple([(ends, first, second) for ends in itertools.product((False, True), repeat=2)
                       for first in range(3) for second in range(3)])
        self.assert_exactly(paper_holds(comp, (value[0], every, value[2])), True)
        every = tuple([(ends,) + states for ends in itertools.product((False, True), repeat=3)
                       for states in itertools.product(range(3), repeat=3)])
        self.assert_exactly(paper_holds(comp, value[:2] + (every,)), True)
        lacking = value[:2] + (every[:13] + every[14:],)
        self.assert_exactly(paper_holds(comp, lacking), plain_holds(comp, lacking))

    def test_the_selfs_need_only_columns_of_twice_one_letter(self):
        comp = (2, ((0, 1, 1, 1, 0, 1, 1, 1), (1,) * 8), (0, 0))
        self.assert_exactly(paper_holds(comp, ((0,),) + paper(comp)[1:]), True)
        comp = (2, ((0, 0, 0, 0, 1, 0, 0, 0), (1,) * 8), (0, 0))
        self.assert_exactly(paper_holds(comp, ((0,),) + paper(comp)[1:]), False)
        self.assert_exactly(paper_holds(comp, ((0, 1),) + paper(comp)[1:]), True)

    def test_papers_of_other_comparisons(self):
        chance = random.Random(86)
        orders = [random_order(chance, letters, 0) for letters in (1, 1, 2, 2, 3)]
        orders += [bent(chance, order, 1) for order in orders]
        papers = [paper(order) for order in orders if is_order(order)]
        for comp in orders:
            for value in papers:
                if self.assert_as_plain(comp, value):
                    self.assertIs(is_order(comp), True)

    def test_no_order_has_a_paper(self):
        chance = random.Random(87)
        for _ in range(60):
            letters, states = chance.randrange(1, 4), chance.randrange(1, 4)
            comp = random_comp(chance, letters, states)
            whole = [tuple(range(states))]
            for many in (2, 3):
                whole.append(tuple([
                    (ends,) + found
                    for ends in itertools.product((False, True), repeat=many)
                    for found in itertools.product(range(states), repeat=many)
                ]))
            self.assert_as_plain(comp, tuple(whole))
            if not is_order(comp):
                self.assert_exactly(paper_holds(comp, tuple(whole)), False)

    def test_the_start_must_be_in_it(self):
        comp = (1, ((1, 1, 1), (1, 1, 1)), (0, 0))
        value = paper(comp)
        self.assert_exactly(paper_holds(comp, value), True)
        for at in (0, 1, 2):
            self.assert_exactly(paper_holds(comp, replaced(value, (at,), value[at][1:])), False)


if __name__ == "__main__":
    unittest.main()
