"""What the document says of benches, done plainly: all is worked out anew for each question."""

from surelyorders.comps import comp_error
from surelyorders.errors import OrderError
from surelyorders.faults import chain_fault, self_fault, turn_fault
from tests.plain import COLUMNS, pairs_come_to

MOST_STATES, MOST_EDITS, LONGEST_BATCH = 40, 60, 20

TAKES = {"link": 3, "say": 2, "grow": 1, "drop": 1, "turn": 0, "behind": 1, "ahead": 1}


class Refused(Exception):
    """An error that the document asks for: the name of its class and its fields."""

    def __init__(self, name, **fields):
        super().__init__(name, fields)
        self.told = (name, fields)


def is_integer(value, low, high):
    return type(value) is int and low <= value <= high


def fault_of(comp):
    for function in (self_fault, turn_fault, chain_fault):
        if function(comp) is not None:
            return function(comp)
    return None


def joined(one, other):
    """The comparison then(one, other), or Refused if it has too many states."""
    pairs, rows = pairs_come_to(one, other)
    if len(pairs) > MOST_STATES:
        raise Refused("TooGreat")
    verdicts = [one[2][first] if one[2][first] != 0 else other[2][second] for first, second in pairs]
    return (one[0], rows, tuple(verdicts))


def edited(comp, item):
    """What the edit makes of comp, or Refused."""
    name, values = item[0], list(item[1:])
    letters, rows, verdicts = comp[0], [list(row) for row in comp[1]], list(comp[2])

    def check_state(value):
        if not is_integer(value, 0, len(rows) - 1):
            raise Refused("NoState", state=value)

    if name in ("behind", "ahead"):
        error = comp_error(values[0])
        if error is not None:
            raise Refused("BadComp", error=error)
        if values[0][0] != letters:
            raise Refused("Unlike")
        return joined(comp, values[0]) if name == "behind" else joined(values[0], comp)
    if name == "turn":
        verdicts = [{-1: 1, 0: 0, 1: -1}[verdict] for verdict in verdicts]
    else:
        check_state(values[0])
    if name == "link":
        if type(values[1]) is not str or values[1] not in COLUMNS[letters]:
            raise Refused("NoColumn", column=values[1])
        check_state(values[2])
        rows[values[0]][COLUMNS[letters].index(values[1])] = values[2]
    elif name == "say":
        if not is_integer(values[1], -1, 1):
            raise Refused("BadVerdict", verdict=values[1])
        verdicts[values[0]] = values[1]
    elif name == "grow":
        if len(rows) == MOST_STATES:
            raise Refused("TooGreat")
        rows.append(list(rows[values[0]]))
        verdicts.append(verdicts[values[0]])
    elif name == "drop":
        state = values[0]
        if state == 0:
            raise Refused("BadDrop", state=state)
        del rows[state], verdicts[state]
        rows = [[0 if item == state else item - (item > state) for item in row] for row in rows]
    return (letters, tuple([tuple(row) for row in rows]), tuple(verdicts))


def is_item(value):
    if type(value) is not tuple or len(value) == 0 or type(value[0]) is not str:
        return False
    return value[0] in TAKES and len(value) == TAKES[value[0]] + 1


class PlainBench:
    """A bench: its first comparison, and the items of its edits."""

    def __init__(self, comp, ordered=False):
        error = comp_error(comp)
        if error is not None:
            raise Refused("BadComp", error=error)
        if len(comp[1]) > MOST_STATES:
            raise Refused("TooGreat")
        self.ordered = ordered
        self.check_order(comp)
        self.comps = [comp]
        self.items = []
        self.removed = []

    def check_order(self, comp):
        fault = fault_of(comp) if self.ordered else None
        if fault is not None:
            raise Refused("Faulty", fault=fault)

    def check_room(self):
        if len(self.items) == MOST_EDITS:
            raise Refused("TooManyEdits")

    def edit(self, item):
        self.check_room()
        comp = edited(self.comps[-1], item)
        self.check_order(comp)
        self.add(item, comp)
        return len(self.items)

    def add(self, item, comp):
        self.items.append(item)
        self.comps.append(comp)
        self.removed = []

    def undo(self):
        if not self.items:
            raise Refused("NothingToUndo")
        self.removed.append((self.items.pop(), self.comps.pop()))
        return len(self.items)

    def redo(self):
        if not self.removed:
            raise Refused("NothingToRedo")
        item, comp = self.removed.pop()
        self.items.append(item)
        self.comps.append(comp)
        return len(self.items)

    def attempt(self, items, most=None):
        """An attempt whose watch ends it behind most items."""
        if type(items) not in (list, tuple) or len(items) > LONGEST_BATCH:
            raise Refused("BadEdits")
        for index, item in enumerate(items):
            if not is_item(item):
                raise Refused("BadEdit", index=index)
        if len(items) == 0:
            return 0
        self.check_room()
        comp, done = self.comps[-1], tuple(items)[:most]
        for index, item in enumerate(done):
            try:
                comp = edited(comp, item)
            except Refused:
                raise Refused("Rejected", index=index)
        self.check_order(comp)
        self.add(("attempt", done), comp)
        return len(done)

    def view(self):
        """All that can be asked of a bench without arguments."""
        letters, rows, _ = comp = self.comps[-1]
        edits = len(self.items)
        return {
            "comp": comp,
            "len": edits,
            "str": f"{letters} letters, {len(rows)} states, {edits} edits",
            "edits": tuple(self.items),
            "comps": tuple(self.comps),
            "verdicts": comp[2],
        }


def view_of(bench):
    """The same of a Bench or an OrderBench."""
    return {
        "comp": bench.comp,
        "len": len(bench),
        "str": str(bench),
        "edits": bench.edits(),
        "comps": tuple([bench.comp_at(version=version) for version in range(len(bench) + 1)]),
        "verdicts": tuple([bench[state] for state in range(len(bench.comp[1]))]),
    }


def undone_and_redone(bench):
    """The views of a bench behind each redo; it is as it was in the end."""
    found = []
    while True:
        try:
            bench.redo()
        except (OrderError, Refused):
            break
        found.append(bench.view() if isinstance(bench, PlainBench) else view_of(bench))
    for _ in found:
        bench.undo()
    return found


def do_edit(bench, item):
    """Do the edit of the item on a Bench by its method or its operator; return the version."""
    name, *values = item
    if name == "behind":
        bench += values[0]
        return len(bench)
    if name == "ahead":
        bench -= values[0]
        return len(bench)
    return getattr(bench, name)(*values)


def replayed(first, items, kind):
    """A new bench with the first comparison, on which the items were done."""
    bench = kind(first)
    for item in items:
        if item[0] == "attempt":
            bench.attempt(item[1])
        else:
            do_edit(bench, item)
    return bench


def any_values():
    """Values of every kind, made anew; some of them are equal to integers for Python."""
    return [
        None, True, False, -1, 40, 10 ** 59, -(10 ** 59), "", "0", "a", "aa", "turn", "x" * 3500, (),
        (0,), ("turn",), [], [0], [("turn",)], {}, {0: 1}, {"turn": ()}, [[[]]], (None, [{}]),
    ]


def random_item(chance, comp, others=()):
    """The item of an edit; mostly one that can be done, now and then one that cannot."""
    item = good_item(chance, comp, others)
    if chance.random() < 0.1 and len(item) > 1:
        at = chance.randrange(1, len(item))
        item = item[:at] + (chance.choice(any_values()),) + item[at + 1:]
    return item


def good_item(chance, comp, others):
    """The item of an edit that mostly can be done."""
    letters, rows, _ = comp
    name = chance.choice(("link", "link", "link", "say", "say", "grow", "drop", "turn", "join"))
    state, target = chance.randrange(len(rows)), chance.randrange(len(rows))
    if name == "link":
        return ("link", state, chance.choice(COLUMNS[letters]), target)
    if name == "say":
        return ("say", state, chance.choice((-1, 0, 1)))
    if name in ("grow", "drop"):
        return (name, state)
    if name == "join" and others:
        return (chance.choice(("behind", "ahead")), chance.choice(others))
    return ("turn",)
