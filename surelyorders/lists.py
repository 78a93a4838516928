"""Lists of words: whether they are sorted, and sorting, merging and searching them."""

from surelyorders.comps import tells
from surelyorders.errors import Faulty, NotSorted
from surelyorders.faults import first_fault


def is_sorted(comp, words):
    """Tell whether comp tells -1 or 0 of each word and its neighbour behind it."""
    return all([tells(comp, one, other) <= 0 for one, other in zip(words, words[1:])])


def all_sorted(comp, words):
    """Tell whether comp tells -1 or 0 of each word and each one behind it."""
    for place, one in enumerate(words):
        if not all([tells(comp, one, other) <= 0 for other in words[place + 1:]]):
            return False
    return True


def sorted_by(comp, words):
    """Return the words sorted, those told same as they stand."""
    require_order(comp)
    return put_in_order(comp, words)


def merged(comp, one, other):
    """Return the words of both sorted lists, sorted, those of one ahead of those told same."""
    require_order(comp)
    require_sorted(comp, one)
    require_sorted(comp, other)
    return put_together(comp, one, other)


def places(comp, words, word):
    """Return how many of the sorted words are told less than word, and how many less or same."""
    require_order(comp)
    require_sorted(comp, words)
    verdicts = [tells(comp, one, word) for one in words]
    less = verdicts.count(-1)
    return (less, less + verdicts.count(0))


def require_order(comp):
    """Raise Faulty with the first fault if comp is no order."""
    fault = first_fault(comp)
    if fault is not None:
        raise Faulty(fault)


def require_sorted(comp, words):
    """Raise NotSorted if the words are not sorted by comp."""
    if not is_sorted(comp, words):
        raise NotSorted(words)


def put_in_order(comp, words):
    """Return the words sorted by comp, which is an order, those told same as they stand."""
    if len(words) < 2:
        return words
    half = len(words) // 2
    return put_together(comp, put_in_order(comp, words[:half]), put_in_order(comp, words[half:]))


def put_together(comp, one, other):
    """Return the words of both lists, which are sorted by comp, an order, those of one first."""
    found = []
    taken = 0
    for word in one:
        # Only what is less goes ahead: what is told same keeps its place behind.
        while taken < len(other) and tells(comp, other[taken], word) == -1:
            found.append(other[taken])
            taken += 1
        found.append(word)
    return tuple(found) + other[taken:]
