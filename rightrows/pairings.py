"""The walks over two trees: joins and differences (points 18 and 19).

Each keeps a list of what is waiting, in which the last item comes next: pairs
of parts to be walked, and tuples of three, which are members of the answer.
"""

from rightrows.splices import split
from rightrows.tables import in_range


def joined(opener, first, second, low, high):
    """Return the list of the joined rows of two trees in a range (point 18)."""
    rows = []
    waiting = [(first, second)]
    while waiting:
        item = waiting.pop()
        if len(item) == 3:
            rows.append(item)
        elif not item[0].is_empty() and not item[1].is_empty():
            waiting.extend(join_steps(opener, item[0], item[1], low, high)[::-1])
    return rows


def join_steps(opener, first, second, low, high):
    """Return what the join of two parts that are not empty leads to, in order."""
    key, row, left, right = opener.opened(first).root
    lower, second_row, greater = split(opener, second, key)
    steps = []
    if low < key:
        steps.append((left, lower))
    if in_range(key, low, high) and second_row is not None:
        steps.append((key, row, second_row))
    if key < high:
        steps.append((right, greater))
    return steps


def compared(opener, first, second):
    """Return the list of the changes between two trees, and that of the pairs of skipped parts (point 19).

    Both lists are in the order of the walk. Parts are skipped if their links are equal.
    """
    changes = []
    skipped = []
    waiting = [(first, second)]
    while waiting:
        item = waiting.pop()
        if len(item) == 3:
            changes.append(item)
        elif item[0].link == item[1].link:
            skipped.append(item)
        else:
            waiting.extend(compare_steps(opener, item[0], item[1])[::-1])
    return changes, skipped


def compare_steps(opener, first, second):
    """Return what the comparison of two parts with different links leads to, in order."""
    if first.is_empty() and second.is_empty():
        return []
    if first.is_empty():
        key, row, left, right = opener.opened(second).root
        return [(first, left), (key, None, row), (first, right)]
    # Splitting an empty second part opens nothing and gives two empty trees, so
    # that all rows of the first part are gone.
    key, row, left, right = opener.opened(first).root
    lower, second_row, greater = split(opener, second, key)
    own_change = [(key, row, second_row)] if row != second_row else []
    return [(left, lower)] + own_change + [(right, greater)]
