"""The walks that make other trees: put and remove, splitting and merging (point 17).

The way down a tree is kept as a list of gaps (rightrows.trees): the roots that
were passed, each with None in the place of the part that the way went to.
"""

from rightrows.trees import completed, empty_part, rooted_part, stands_above


def way_on(root, key):
    """Return the gap at a root and the part below it on the side of a key."""
    own_key, row, left, right = root
    if key < own_key:
        return (own_key, row, None, right), left
    return (own_key, row, left, None), right


def way_to(opener, part, key):
    """Return the gaps on the way to a key, and the open part that has it or an empty part."""
    gaps = []
    while not part.is_empty():
        part = opener.opened(part)
        if part.root[0] == key:
            break
        gap, part = way_on(part.root, key)
        gaps.append(gap)
    return gaps, part


def split(opener, part, key):
    """Return the part with the lower keys, the row of the key or None, and the part with the greater keys."""
    gaps, found = way_to(opener, part, key)
    if found.is_empty():
        found_row, lower, greater = None, empty_part(opener.rule), empty_part(opener.rule)
    else:
        _, found_row, lower, greater = found.root
    for gap in reversed(gaps):
        if key < gap[0]:
            greater = completed(opener.rule, [gap], greater, True)
        else:
            lower = completed(opener.rule, [gap], lower, True)
    return lower, found_row, greater


def merged(opener, first, second):
    """Return the part that two parts make, where all keys of the first one are lower."""
    gaps = []
    while not first.is_empty() and not second.is_empty():
        first = opener.opened(first)
        second = opener.opened(second)
        if stands_above(first.root[0], second.root[0]):
            key, row, left, first = first.root
            gaps.append((key, row, left, None))
        else:
            key, row, second, right = second.root
            gaps.append((key, row, None, right))
    return completed(opener.rule, gaps, second if first.is_empty() else first, True)


def with_row(opener, tree, key, row):
    """Return the tree with a row put at a key."""
    gaps = []
    part = tree
    while not part.is_empty():
        part = opener.opened(part)
        if part.root[0] == key or stands_above(key, part.root[0]):
            break
        gap, part = way_on(part.root, key)
        gaps.append(gap)
    # Splitting also serves a part that has the key and an empty one: it gives
    # the two parts of the one, and two empty trees for the other.
    lower, _, greater = split(opener, part, key)
    return completed(opener.rule, gaps, rooted_part(opener.rule, (key, row, lower, greater), True), True)


def without_row(opener, tree, key):
    """Return the tree without the row of a key."""
    gaps, found = way_to(opener, tree, key)
    if found.is_empty():
        rest = found
    else:
        rest = merged(opener, found.root[2], found.root[3])
    return completed(opener.rule, gaps, rest, True)


def spliced(opener, tree, change):
    """Return the tree after a change."""
    if change[0] == "put":
        return with_row(opener, tree, change[1], change[2])
    return without_row(opener, tree, change[1])
