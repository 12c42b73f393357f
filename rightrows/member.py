"""The member, who takes sealed versions of a store and reads certificates for them."""

from rightrows.meetings import is_double, parting
from rightrows.reading import read, read_change, read_differences
from rightrows.seals import is_sealed_version
from rightrows.versions import follows, next_version


class Member:
    """Holds the sealed versions that were taken (point 32). The first one is not looked at."""

    def __init__(self, rule, cards, sealed):
        self.rule = rule
        self.held_cards = list(cards)
        self.line = [sealed]

    def version(self):
        """Return the last taken version."""
        return self.line[-1][0]

    def taken(self):
        """Return the list of all taken sealed versions, in order."""
        return list(self.line)

    def follow(self, sealed, path):
        """Take a sealed version if its seal fits and a path leads to it. Return whether it was taken."""
        # A path leads to greater numbers only, so that nothing else need be asked of the number.
        if not is_sealed_version(self.rule, self.held_cards, sealed):
            return False
        if not follows(self.rule, self.version(), sealed[0], path):
            return False
        self.line.append(sealed)
        return True

    def read(self, query, certificate):
        """Return the answer that a certificate gives to a query about the last taken version, or its refusal."""
        return read(self.rule, self.version()[1], query, certificate)

    def changes(self, number, certificate):
        """Return the changes since the taken version with a number, or the refusal; None if there is none."""
        for version, _ in self.line:
            if version[0] == number:
                return read_differences(self.rule, version[1], self.version()[1], certificate)
        return None

    def change(self, change, certificate):
        """Return the version to which a change leads, or None if its certificate is refused."""
        told = read_change(self.rule, self.version()[1], change, certificate)
        if told[0] == "refused":
            return None
        return next_version(self.rule, self.version(), told[1])

    def meet(self, taken):
        """Return the first different pair with the sealed versions of another member if it is a double, or None."""
        pair = parting(self.line, taken)
        if pair is None or not is_double(self.rule, self.held_cards, pair[0], pair[1]):
            return None
        return pair
