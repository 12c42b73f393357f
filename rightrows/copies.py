"""Copies of tables that are read by pages (point 36)."""

from rightrows.reading import read
from rightrows.trees import head_of


class Copy:
    """Reads the table of a head, as many rows at once as its size says."""

    def __init__(self, rule, head, size):
        self.rule = rule
        self.head = head
        self.size = size
        self.pairs = []

    def wanted(self):
        """Return the query that is wanted, or None if there are at least as many rows as the head counts."""
        if len(self.pairs) >= self.head[1]:
            return None
        last_key = self.pairs[-1][0] if self.pairs else ""
        return ("next", last_key, self.size)

    def add(self, certificate):
        """Return what the certificate gives for the wanted query, and keep its rows. None if nothing is wanted."""
        query = self.wanted()
        if query is None:
            return None
        told = read(self.rule, self.head, query, certificate)
        if told[0] == "answer":
            self.pairs.extend(told[1])
        return told

    def rows(self):
        """Return the list of the rows so far with their keys, a new list."""
        return list(self.pairs)

    def is_whole(self):
        """Return True if there are as many rows as the head counts and their table has the head."""
        # The head has the number of rows in it.
        return head_of(self.rule, self.pairs) == self.head
