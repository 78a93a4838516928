"""Whether a comparison is an order: the first faults, and papers that can be checked.

Also the first words that two comparisons tell unlike, and that one tells the same.
"""

from surelyorders.comps import is_number
from surelyorders.errors import Unlike
from surelyorders.makings import by_ranks
from surelyorders.walks import Walk, first_words, searched


def self_fault(comp):
    """Return the first word of which, beside itself, comp does not tell 0, or None."""
    words = first_words(self_walk(comp), is_not_same)
    return None if words is None else words[0]


def turn_fault(comp):
    """Return the first pair of which comp does not tell the contrary when exchanged, or None."""
    return first_words(turn_walk(comp), is_not_contrary)


def chain_fault(comp):
    """Return the first triple of words that does not go on from two to the third, or None."""
    return first_words(chain_walk(comp), is_broken_chain)


def first_fault(comp):
    """Return the first of self_fault, turn_fault and chain_fault that is not None, or None."""
    fault = self_fault(comp)
    if fault is None:
        fault = turn_fault(comp)
    if fault is None:
        fault = chain_fault(comp)
    return fault


def is_order(comp):
    """Tell whether comp is an order."""
    for walk, wanted in order_walks(comp):
        _, found = searched(walk, wanted)
        if found:
            return False
    return True


def paper(comp):
    """Return a paper that shows that comp is an order, or None if it is none."""
    parts = []
    for walk, wanted in order_walks(comp):
        layers, found = searched(walk, wanted)
        if found:
            return None
        spots = sorted([spot for layer in layers for spot in layer])
        parts.append([walk.item(spot) for spot in spots])
    selfs, turns, chains = parts
    return (tuple([state for _, state in selfs]), tuple(turns), tuple(chains))


def paper_holds(comp, value):
    """Tell whether the value, which may be any value, is a paper for comp."""
    if not isinstance(value, tuple) or len(value) != 3:
        return False
    if not all([isinstance(part, tuple) for part in value]):
        return False
    selfs, turns, chains = value
    # A word beside itself has not ended at any step, so its items need no ends.
    parts = ([((False,), state) for state in selfs], turns, chains)
    for (walk, wanted), part in zip(order_walks(comp), parts):
        if not all([is_item(walk, item) for item in part]):
            return False
        if not is_closed(walk, wanted, [walk.spot(item[0], item[1:]) for item in part]):
            return False
    return True


def unlike(one, other):
    """Return the first pair of words of which both tell unlike verdicts, or None."""
    if one[0] != other[0]:
        raise Unlike()
    return first_words(Walk(2, ((one, 0, 1), (other, 0, 1))), is_unlike)


def tie(comp):
    """Return the first pair of unlike words of which comp tells 0, or None."""
    # By ranks of which no two are the same, just unlike words are not told the same.
    apart = by_ranks(comp[0], tuple(range(comp[0])))
    return first_words(Walk(2, ((comp, 0, 1), (apart, 0, 1))), is_tied)


def self_walk(comp):
    """Return the walk of a word beside itself."""
    return Walk(1, ((comp, 0, 0),))


def turn_walk(comp):
    """Return the walk of two words that are read in both orders."""
    return Walk(2, ((comp, 0, 1), (comp, 1, 0)))


def chain_walk(comp):
    """Return the walk of three words: the first two, the last two, and the first and the last."""
    return Walk(3, ((comp, 0, 1), (comp, 1, 2), (comp, 0, 2)))


def order_walks(comp):
    """Return the walks for the three rules of an order, each with what breaks the rule."""
    return [
        (self_walk(comp), is_not_same),
        (turn_walk(comp), is_not_contrary),
        (chain_walk(comp), is_broken_chain),
    ]


def is_not_same(told):
    """Tell whether a word is not told the same as itself."""
    return told[0] != 0


def is_not_contrary(told):
    """Tell whether both verdicts are not contrary ones."""
    return told[0] != -told[1]


def is_broken_chain(told):
    """Tell whether the first two and the last two words are in order, but the outer ones not."""
    return told[0] <= 0 and told[1] <= 0 and told[2] == 1


def is_unlike(told):
    """Tell whether the two verdicts are unlike."""
    return told[0] != told[1]


def is_tied(told):
    """Tell whether the first reader tells 0 and the second one does not."""
    return told[0] == 0 and told[1] != 0


def is_item(walk, value):
    """Tell whether the value is a tuple of ends and of states for the walk."""
    if not isinstance(value, tuple) or len(value) != walk.readers + 1:
        return False
    ends = value[0]
    if not isinstance(ends, tuple) or len(ends) != walk.words:
        return False
    # 0 and 1 are equal to bools, but none.
    if not all([isinstance(ended, bool) for ended in ends]):
        return False
    return all([is_number(state, 0, walk.sizes[0] - 1) for state in value[1:]])


def is_closed(walk, wanted, spots):
    """Tell whether the spots ascend from 0 on, lead only to each other, and none is wanted."""
    held = {spot: True for spot in spots}
    if 0 not in held or spots != sorted(held):
        return False
    for spot in spots:
        if wanted(walk.told_at(spot)):
            return False
        if not all([behind in held for behind in walk.behind(spot)]):
            return False
    return True
