"""The store, which keeps the tables of all versions and seals one version for each number."""

from rightrows.errors import TooManyVersions, UnknownVersion
from rightrows.reading import answered, certified_change, certified_differences
from rightrows.seals import card_of, sealed_version
from rightrows.tables import changed_table
from rightrows.trees import head_of
from rightrows.versions import first_version, next_version

MOST_VERSIONS = 20


class Store:
    """Keeps tables, and gives certificates and sealed versions of them (point 31)."""

    def __init__(self, rule, secret, table):
        self.rule = rule
        self.secret = secret
        self.tables = [list(table)]
        self.line = [sealed_version(rule, secret, first_version(head_of(rule, table)))]

    def change(self, change):
        """Make a change. Return its right certificate for the table before."""
        if len(self.tables) == MOST_VERSIONS:
            raise TooManyVersions()
        table = self.tables[-1]
        head, certificate = certified_change(self.rule, table, change)
        version = next_version(self.rule, self.line[-1][0], head)
        self.tables.append(changed_table(table, change))
        self.line.append(sealed_version(self.rule, self.secret, version))
        return certificate

    def latest(self):
        """Return the number of the last version."""
        return len(self.tables) - 1

    def require(self, number):
        """Raise UnknownVersion if the store does not have a version with a number."""
        if not 0 <= number <= self.latest():
            raise UnknownVersion(number)

    def table(self, number):
        """Return the table of a version, a new list."""
        self.require(number)
        return list(self.tables[number])

    def sealed(self, number):
        """Return the sealed version with a number."""
        self.require(number)
        return self.line[number]

    def cards(self):
        """Return the list of the cards for all numbers that versions of a store may have."""
        return [card_of(self.rule, self.secret, number) for number in range(MOST_VERSIONS)]

    def path(self, earlier, later):
        """Return the list of the versions between two versions."""
        self.require(earlier)
        self.require(later)
        return [version for version, _ in self.line[earlier + 1:later]]

    def ask(self, number, query):
        """Return the right certificate of a query about the table of a version."""
        self.require(number)
        _, certificate = answered(self.rule, self.tables[number], query)
        return certificate

    def compare(self, earlier, later):
        """Return the right certificate of the differences of the tables of two versions."""
        self.require(earlier)
        self.require(later)
        _, certificate = certified_differences(self.rule, self.tables[earlier], self.tables[later])
        return certificate
