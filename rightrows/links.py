"""Links and entries: their form, and the links of entries.

A link is a tuple of a digest, a count and sums. An entry is a tuple of a key,
a row, the link of the left part and the link of the right part.
"""

from rightrows.tables import WIDEST_ROW, column_of, is_key, is_row
from rightrows.texts import digest


def is_number(value):
    """Return True if a value is an integer that is not negative."""
    # True and False are integers for Python, but not for the document.
    return isinstance(value, int) and not isinstance(value, bool) and value >= 0


def are_numbers(value):
    """Return True if a value is a tuple of integers that are not negative."""
    return isinstance(value, tuple) and all([is_number(member) for member in value])


def is_link(value):
    """Return True if any value has the form of a link (point 21)."""
    if not isinstance(value, tuple) or len(value) != 3:
        return False
    mark, count, sums = value
    return is_number(mark) and is_number(count) and are_numbers(sums) and len(sums) == WIDEST_ROW


def is_entry(value):
    """Return True if any value has the form of an entry (point 21)."""
    if not isinstance(value, tuple) or len(value) != 4:
        return False
    key, row, left, right = value
    if not isinstance(key, str) or not is_key(key):
        return False
    return are_numbers(row) and is_row(row) and is_link(left) and is_link(right)


def entry_digest(rule, entry):
    """Return the digest of an entry (point 9)."""
    key, row, left, right = entry
    return digest(rule, ("node", key, row, left, right))


def entry_link(rule, entry):
    """Return the link of an entry (point 9)."""
    _, row, left, right = entry
    sums = [column_of(row, column) + left[2][column] + right[2][column] for column in range(WIDEST_ROW)]
    return (entry_digest(rule, entry), 1 + left[1] + right[1], tuple(sums))


def empty_link(rule):
    """Return the link of the empty tree (point 9)."""
    return (digest(rule, ("empty",)), 0, (0, 0, 0))
