"""Benches: a comparison that is edited, with undo and redo and several edits at one go."""

from surelyorders.bounds import MAX_LIST, MAX_STATES
from surelyorders.changes import changed, checked_items, require_state
from surelyorders.comps import comp_error, is_number, is_word, tells
from surelyorders.errors import (
    BadComp, BadList, BadWord, Busy, Faulty, NoColumn, NoState, NothingToRedo, NothingToUndo,
    NoVersion, OrderError, Rejected, TooGreat, TooManyEdits,
)
from surelyorders.faults import first_fault
from surelyorders.lists import put_in_order


class Bench:
    """A comparison, comp, and the edits that made it of a first one."""

    # MAX_EDITS, written out: a value of a class is a literal.
    MOST_EDITS = 60

    # Whether the comparison of each version must be an order.
    ORDERED = False

    def __init__(self, comp):
        error = comp_error(comp)
        if error is not None:
            raise BadComp(error)
        if len(comp[1]) > MAX_STATES:
            raise TooGreat()
        # The comparison whose fault was asked last, and this fault.
        self.known = None
        self.require_order(comp)
        self.comp = comp
        self.origin = comp
        # Pairs of an edit's item and the comparison behind it: those that stand, and those that
        # undo has removed, the last one first to be put back.
        self.standing = []
        self.removed = []
        self.busy = False

    def link(self, state, column, target):
        """Let the state's item for the column be target; return the new version."""
        return self.edit(("link", state, column, target))

    def say(self, state, verdict):
        """Give the state the verdict; return the new version."""
        return self.edit(("say", state, verdict))

    def grow(self, state):
        """Put a state like this one behind the others; return the new version."""
        return self.edit(("grow", state))

    def drop(self, state):
        """Take the state away; return the new version."""
        return self.edit(("drop", state))

    def turn(self):
        """Give each state the contrary verdict; return the new version."""
        return self.edit(("turn",))

    def __iadd__(self, other):
        """Put the comparison behind the present one."""
        self.edit(("behind", other))
        return self

    def __isub__(self, other):
        """Put the comparison ahead of the present one."""
        self.edit(("ahead", other))
        return self

    def __setitem__(self, at, worth):
        """Give the state the verdict."""
        self.say(at, worth)

    def __getitem__(self, at):
        """Return the verdict of the state."""
        return self.verdict_of(at)

    def __iter__(self):
        raise TypeError("a bench is not iterated over")

    def undo(self):
        """Remove the last edit that stands; return the new version."""
        self.require_free()
        if len(self.standing) == 0:
            raise NothingToUndo()
        self.removed.append(self.standing.pop())
        self.comp = self.comp_behind(len(self.standing))
        return len(self.standing)

    def redo(self):
        """Put the edit that was removed last in its place again; return the new version."""
        self.require_free()
        if len(self.removed) == 0:
            raise NothingToRedo()
        self.standing.append(self.removed.pop())
        self.comp = self.comp_behind(len(self.standing))
        return len(self.standing)

    def attempt(self, edits, *, watch=None):
        """Do the items until the watch ends them, as one edit; return how many were done."""
        self.require_free()
        items = checked_items(edits)
        if len(items) == 0:
            return 0
        self.require_room()
        comp, standing = self.comp, self.standing
        try:
            many = self.do_items(items, watch)
            found = self.comp
            self.require_order(found)
        finally:
            # What was seen on the way is taken back, whatever was raised.
            self.comp, self.standing = comp, standing
        self.stand(("attempt", items[:many]), found)
        return many

    def first_fault(self):
        """Return the first word, pair or triple that shows that comp is no order, or None."""
        return self.fault_of(self.comp)

    def tells(self, one, other):
        """Return -1, 0 or 1: one is less than other, the same, or greater."""
        for word in (one, other):
            if not is_word(word, self.comp[0]):
                raise BadWord(word)
        return tells(self.comp, one, other)

    def sorted_by(self, words):
        """Return the words sorted, those told same as they stand."""
        if not isinstance(words, tuple) or len(words) > MAX_LIST:
            raise BadList(words)
        if not all([is_word(word, self.comp[0]) for word in words]):
            raise BadList(words)
        fault = self.first_fault()
        if fault is not None:
            raise Faulty(fault)
        return put_in_order(self.comp, words)

    def comp_at(self, *, version=None):
        """Return the comparison now, or behind so many of the edits that stand."""
        if version is None:
            return self.comp
        if not is_number(version, 0, len(self.standing)):
            raise NoVersion(version)
        return self.comp_behind(version)

    def edits(self):
        """Return the items of the edits that stand."""
        return tuple([item for item, _ in self.standing])

    def __len__(self):
        return len(self.standing)

    def __str__(self):
        return str(self.summary())

    def __eq__(self, other):
        return isinstance(other, Bench) and self.comp == other.comp and self.ORDERED == other.ORDERED

    def verdict_of(self, state):
        """Return the verdict of the state."""
        require_state(self.comp, state)
        return self.comp[2][state]

    def summary(self):
        """Return the text of the numbers of letters, states and edits."""
        return f"{self.comp[0]} letters, {len(self.comp[1])} states, {len(self.standing)} edits"

    def edit(self, item):
        """Do the edit that the item tells; return the new version."""
        self.require_free()
        self.require_room()
        comp = changed(self.comp, item)
        self.require_order(comp)
        return self.stand(item, comp)

    def stand(self, item, comp):
        """Let the edit stand, with the comparison behind it; return the new version."""
        self.comp = comp
        self.standing.append((item, comp))
        self.removed = []
        return len(self.standing)

    def do_items(self, items, watch):
        """Do the items, seen as one edit more, until the watch ends them; return how many."""
        standing = self.standing
        for index, item in enumerate(items):
            try:
                self.comp = changed(self.comp, item)
            except (OrderError, NoState, NoColumn):
                raise Rejected(index) from None
            self.standing = standing + [(("attempt", items[:index + 1]), self.comp)]
            if watch is not None and self.is_ended(watch):
                return index + 1
        return len(items)

    def is_ended(self, watch):
        """Tell whether the watch ends the attempt."""
        self.busy = True
        try:
            # Whether the result counts as true is asked here, while the bench is busy.
            return bool(watch(self))
        finally:
            self.busy = False

    def require_free(self):
        """Raise Busy while a watch runs or its result is asked."""
        if self.busy:
            raise Busy()

    def require_room(self):
        """Raise TooManyEdits if no more edits may stand."""
        if len(self.standing) >= self.MOST_EDITS:
            raise TooManyEdits()

    def require_order(self, comp):
        """Raise Faulty if this bench keeps to orders and comp is none."""
        fault = self.fault_of(comp) if self.ORDERED else None
        if fault is not None:
            raise Faulty(fault)

    def fault_of(self, comp):
        """Return the first fault of comp, or None."""
        # It can take seconds to find out that there is none, and it is often asked again.
        if self.known is None or self.known[0] != comp:
            self.known = (comp, first_fault(comp))
        return self.known[1]

    def comp_behind(self, many):
        """Return the comparison behind so many of the edits that stand."""
        return self.origin if many == 0 else self.standing[many - 1][1]


class OrderBench(Bench):
    """A bench whose comparison is an order in each version."""

    ORDERED = True

    # All that callers use stands here too, also where it does just what it does for a Bench, so
    # that the class shows by itself what can be asked of it. The operators share methods with
    # those of Bench, since super calls plain methods alone.

    def __init__(self, comp):
        Bench.__init__(self, comp)

    def link(self, state, column, target):
        """Let the state's item for the column be target; return the new version."""
        return super().link(state, column, target)

    def say(self, state, verdict):
        """Give the state the verdict; return the new version."""
        return super().say(state, verdict)

    def grow(self, state):
        """Put a state like this one behind the others; return the new version."""
        return super().grow(state)

    def drop(self, state):
        """Take the state away; return the new version."""
        return super().drop(state)

    def turn(self):
        """Give each state the contrary verdict; return the new version."""
        return super().turn()

    def __iadd__(self, other):
        """Put the comparison behind the present one."""
        self.edit(("behind", other))
        return self

    def __isub__(self, other):
        """Put the comparison ahead of the present one."""
        self.edit(("ahead", other))
        return self

    def __setitem__(self, at, worth):
        """Give the state the verdict."""
        self.say(at, worth)

    def __getitem__(self, at):
        """Return the verdict of the state."""
        return self.verdict_of(at)

    def undo(self):
        """Remove the last edit that stands; return the new version."""
        return super().undo()

    def redo(self):
        """Put the edit that was removed last in its place again; return the new version."""
        return super().redo()

    def attempt(self, edits, *, watch=None):
        """Do the items until the watch ends them, as one edit; return how many were done."""
        return super().attempt(edits, watch=watch)

    def first_fault(self):
        """Return the first word, pair or triple that shows that comp is no order, or None."""
        return super().first_fault()

    def tells(self, one, other):
        """Return -1, 0 or 1: one is less than other, the same, or greater."""
        return super().tells(one, other)

    def sorted_by(self, words):
        """Return the words sorted, those told same as they stand."""
        return super().sorted_by(words)

    def comp_at(self, *, version=None):
        """Return the comparison now, or behind so many of the edits that stand."""
        return super().comp_at(version=version)

    def edits(self):
        """Return the items of the edits that stand."""
        return super().edits()

    def __len__(self):
        return len(self.standing)

    def __str__(self):
        return str(self.summary())

    def __eq__(self, other):
        return isinstance(other, OrderBench) and self.comp == other.comp
