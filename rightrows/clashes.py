"""Clashes: pairs of different entries that have the same digest."""

from rightrows.links import entry_digest, is_entry
from rightrows.openers import Recorder
from rightrows.pairings import compared
from rightrows.trees import tree_of


def clash(rule, honest, certificate):
    """Return the clash of the right certificate and a given one, or None (point 24)."""
    for right_entry, entry in zip(honest, certificate):
        if right_entry != entry:
            if is_entry(entry) and entry_digest(rule, right_entry) == entry_digest(rule, entry):
                return (right_entry, entry)
            return None
    return None


def first_different(first, second):
    """Return the first two different entries at the same place of two parts with the same link, or None.

    A root comes before what is on its left, and that before what is on its right.
    """
    waiting = [(first, second)]
    while waiting:
        one, other = waiting.pop()
        # Parts with the same link are empty both or neither, and so are the
        # parts on one side of equal entries.
        if not one.is_empty():
            if one.entry() != other.entry():
                return (one.entry(), other.entry())
            waiting.append((one.root[3], other.root[3]))
            waiting.append((one.root[2], other.root[2]))
    return None


def clash_of_tables(rule, first, second):
    """Return the first two different entries of parts that the differences skip, or None (point 25)."""
    _, skipped = compared(Recorder(rule), tree_of(rule, first), tree_of(rule, second))
    for one, other in skipped:
        pair = first_different(one, other)
        if pair is not None:
            return pair
    return None
