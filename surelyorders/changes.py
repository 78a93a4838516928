"""What each edit of a bench makes of a comparison, and the items that tell edits.

An item is a tuple of the name of an edit and the values that it takes.
"""

from surelyorders.bounds import BATCH, MAX_STATES
from surelyorders.comps import columns, comp_error, is_number
from surelyorders.errors import (
    BadComp, BadDrop, BadEdit, BadEdits, BadVerdict, NoColumn, NoState, TooGreat, Unlike,
)
from surelyorders.makings import then_within, turned


def changed(comp, item):
    """Return what the edit that the item tells makes of comp."""
    name, *values = item
    action = ACTIONS[name]
    return action(comp, *values)


def checked_items(edits):
    """Return the tuple of the items of an attempt, which may be any value."""
    if not isinstance(edits, (list, tuple)) or len(edits) > BATCH:
        raise BadEdits()
    for index, item in enumerate(edits):
        if not is_item(item):
            raise BadEdit(index)
    return tuple(edits)


def is_item(value):
    """Tell whether the value is a tuple of an edit's name and as many values as it takes."""
    if not isinstance(value, tuple) or len(value) == 0:
        return False
    name = value[0]
    return isinstance(name, str) and name in TAKEN and len(value) == 1 + TAKEN[name]


def linked(comp, state, column, target):
    """Return comp with the state's item for the column being target."""
    letters, rows, verdicts = comp
    require_state(comp, state)
    names = columns(letters)
    if column not in names:
        raise NoColumn(column)
    require_state(comp, target)
    row = replaced(rows[state], names.index(column), target)
    return (letters, replaced(rows, state, row), verdicts)


def said(comp, state, verdict):
    """Return comp with the verdict for the state."""
    letters, rows, verdicts = comp
    require_state(comp, state)
    if not is_number(verdict, -1, 1):
        raise BadVerdict(verdict)
    return (letters, rows, replaced(verdicts, state, verdict))


def grown(comp, state):
    """Return comp with one state more, which has the items and the verdict of this one."""
    letters, rows, verdicts = comp
    require_state(comp, state)
    if len(rows) >= MAX_STATES:
        raise TooGreat()
    return (letters, rows + (rows[state],), verdicts + (verdicts[state],))


def dropped(comp, state):
    """Return comp without the state: items that are this state become 0."""
    letters, rows, verdicts = comp
    require_state(comp, state)
    if state == 0:
        raise BadDrop(state)
    numbers = list(range(state)) + [0] + list(range(state, len(rows) - 1))
    kept = [tuple([numbers[item] for item in row]) for row in without(rows, state)]
    return (letters, tuple(kept), without(verdicts, state))


def contrary(comp):
    """Return comp with the contrary verdicts."""
    return turned(comp)


def with_behind(comp, other):
    """Return the comparison that tells what comp tells, and where that is 0 what other tells."""
    require_fitting(comp, other)
    return within_bounds(comp, other)


def with_ahead(comp, other):
    """Return the comparison that tells what other tells, and where that is 0 what comp tells."""
    require_fitting(comp, other)
    return within_bounds(other, comp)


def require_state(comp, value):
    """Raise NoState if the value is not a number of a state of comp."""
    if not is_number(value, 0, len(comp[1]) - 1):
        raise NoState(value)


def require_fitting(comp, value):
    """Raise BadComp or Unlike if the value is not a comparison of as many letters as comp."""
    error = comp_error(value)
    if error is not None:
        raise BadComp(error)
    if value[0] != comp[0]:
        raise Unlike()


def within_bounds(one, other):
    """Return one and behind it other, as then does, unless this has too many states."""
    found = then_within(one, other, MAX_STATES)
    if found is None:
        raise TooGreat()
    return found


def replaced(items, place, item):
    """Return the tuple with the item at the place."""
    return items[:place] + (item,) + items[place + 1:]


def without(items, place):
    """Return the tuple without the item at the place."""
    return items[:place] + items[place + 1:]


# What does each edit. Only functions of this file may stand here, so contrary stands for turned.
ACTIONS = {
    "link": linked,
    "say": said,
    "grow": grown,
    "drop": dropped,
    "turn": contrary,
    "behind": with_behind,
    "ahead": with_ahead,
}

# How many values each edit takes.
TAKEN = {"link": 3, "say": 2, "grow": 1, "drop": 1, "turn": 0, "behind": 1, "ahead": 1}
