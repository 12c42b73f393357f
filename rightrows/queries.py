"""The walks of the queries (points 12 to 16), for makers and for readers of certificates.

Where a walk has several parts before it, it keeps a list of what is waiting,
in which the last item comes next.
"""

from rightrows.tables import column_sum, in_range


def queried(opener, tree, query):
    """Return the answer of a tree to a query."""
    match query:
        case ("get", key):
            return row_at(opener, tree, key)
        case ("range", low, high):
            return pairs_between(opener, tree, low, high)
        case ("next", key, count):
            return pairs_behind(opener, tree, key, count)
        case ("count", low, high):
            return sum([weight[0] for weight in weights_between(opener, tree, low, high)])
        case ("sum", column, low, high):
            return column_sum(weights_between(opener, tree, low, high), column)
        case ("place", key):
            return place_of(opener, tree, key)
        case ("at", place):
            return pair_at_place(opener, tree, place)


def row_at(opener, part, key):
    """Return the row of a key or None (point 12)."""
    while not part.is_empty():
        own_key, row, left, right = opener.opened(part).root
        if own_key == key:
            return row
        part = left if key < own_key else right
    return None


def pairs_between(opener, tree, low, high):
    """Return the list of the pairs in a range (point 13)."""
    pairs = []
    # Parts to be walked, and pairs (tuples) that follow them.
    waiting = [tree]
    while waiting:
        item = waiting.pop()
        if isinstance(item, tuple):
            pairs.append(item)
        elif not item.is_empty():
            key, row, left, right = opener.opened(item).root
            if key < high:
                waiting.append(right)
            if in_range(key, low, high):
                waiting.append((key, row))
            if low < key:
                waiting.append(left)
    return pairs


def pairs_behind(opener, tree, wanted, count):
    """Return the list of the first pairs with keys greater than a key (point 14)."""
    pairs = []
    # Parts to be walked, and pairs (tuples) that follow them.
    waiting = [tree]
    while waiting and len(pairs) < count:
        item = waiting.pop()
        if isinstance(item, tuple):
            pairs.append(item)
        elif not item.is_empty():
            key, row, left, right = opener.opened(item).root
            waiting.append(right)
            if wanted < key:
                waiting.extend([(key, row), left])
    return pairs


def is_within(above, below, low, high):
    """Return True if all keys between two keys, which may be None, are in a range (point 15)."""
    fits_low = low == "" or (above is not None and low <= above)
    return fits_low and below is not None and below <= high


def weights_between(opener, tree, low, high):
    """Return a list of pairs of a count and sums that make up a range (point 15).

    Each pair is that of a whole part, or 1 and the row of an opened one.
    """
    weights = []
    # Each part has with it the key above which and that below which its keys lie, or None.
    waiting = [(tree, None, None)]
    while waiting:
        part, above, below = waiting.pop()
        # An empty part counts nothing, whatever sums its link has.
        if not part.is_empty():
            if is_within(above, below, low, high):
                weights.append((part.link[1], part.link[2]))
            else:
                key, row, left, right = opener.opened(part).root
                if in_range(key, low, high):
                    weights.append((1, row))
                if key < high:
                    waiting.append((right, key, below))
                if low < key:
                    waiting.append((left, above, key))
    return weights


def place_of(opener, part, key):
    """Return how many rows have lower keys than a key (point 16)."""
    passed = 0
    while not part.is_empty():
        own_key, _, left, right = opener.opened(part).root
        if key <= own_key:
            part = left
        else:
            passed += left.link[1] + 1
            part = right
    return passed


def pair_at_place(opener, part, place):
    """Return the pair at a place or None (point 16)."""
    while not part.is_empty() and place < part.link[1]:
        key, row, left, right = opener.opened(part).root
        lower = left.link[1]
        if place == lower:
            return (key, row)
        if place < lower:
            part = left
        else:
            part = right
            place = place - lower - 1
    return None
