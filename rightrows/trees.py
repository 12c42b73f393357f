"""The ranks of keys, and the trees of tables with their heads."""

from rightrows.links import empty_link, entry_link


def rank(key):
    """Return the rank of a key, an integer (point 7)."""
    result = 7
    for sign in key:
        result = (result * 131 + ord(sign)) % 1000003
    return result


def stands_above(key, other):
    """Return True if a key stands above another key (point 7)."""
    own_rank = rank(key)
    other_rank = rank(other)
    return own_rank > other_rank or (own_rank == other_rank and key < other)


class Part:
    """A part of a tree, as a walk sees it. It is never changed.

    The root is a tuple of the key, the row, the left part and the right part.
    It is None if the part is empty, or if nothing but its link is known.
    A part is open if a walk has opened it or made it.
    """

    def __init__(self, link, root, is_open):
        self.link = link
        self.root = root
        self.is_open = is_open

    def is_empty(self):
        """Return True if the part has no rows, as its link says (point 11)."""
        return self.link[1] == 0

    def entry(self):
        """Return the entry of a part that has a root."""
        key, row, left, right = self.root
        return (key, row, left.link, right.link)


def linked_part(link):
    """Return a part of which nothing but the link is known."""
    return Part(link, None, False)


def empty_part(rule):
    """Return the empty tree."""
    return linked_part(empty_link(rule))


def rooted_part(rule, root, is_open):
    """Return the part with a root, with the link that its root gives it."""
    key, row, left, right = root
    return Part(entry_link(rule, (key, row, left.link, right.link)), root, is_open)


def completed(rule, gaps, part, is_open):
    """Return the part that a list of gaps and the part in the last of them make.

    A gap is a root with None in the place of one of its two parts. It lacks
    what the next gap of the list makes, the last one lacks the given part.
    """
    for key, row, left, right in reversed(gaps):
        root = (key, row, part, right) if left is None else (key, row, left, part)
        part = rooted_part(rule, root, is_open)
    return part


def tree_of(rule, table):
    """Return the tree of a table (point 8), of which nothing is open."""
    # The gaps are the roots on the way to the last row so far. A row that stands
    # above some of them has all of these on its left.
    gaps = []
    for key, row in table:
        lower = []
        while gaps and stands_above(key, gaps[-1][0]):
            lower.append(gaps.pop())
        gaps.append((key, row, completed(rule, lower[::-1], empty_part(rule), False), None))
    return completed(rule, gaps, empty_part(rule), False)


def head_of(rule, table):
    """Return the head of a table, a tuple (point 10)."""
    return tree_of(rule, table).link
