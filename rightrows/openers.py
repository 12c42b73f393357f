"""What opens the parts of a walk: a recorder with a known tree, or a reader with a certificate.

Both have a rule, and a method `opened` that gives the open part for a part
that is not empty. So one and the same walk makes certificates and reads them.
"""

from rightrows.errors import Refused
from rightrows.links import entry_link, is_entry
from rightrows.trees import Part, linked_part


class Recorder:
    """Opens the parts of known trees, and keeps their entries as the right certificate."""

    def __init__(self, rule):
        self.rule = rule
        self.certificate = []

    def opened(self, part):
        """Return the part, open. Its entry is noted unless it is open already."""
        if part.is_open:
            return part
        self.certificate.append(part.entry())
        return Part(part.link, part.root, True)


class Reader:
    """Opens parts of which only the links are known, with the entries of a certificate (point 21)."""

    def __init__(self, rule, certificate):
        self.rule = rule
        self.certificate = certificate
        self.position = 0

    def opened(self, part):
        """Return the part, open. The next entry is taken or refused unless it is open already."""
        if part.is_open:
            return part
        if self.position == len(self.certificate):
            raise Refused("short", self.position)
        entry = self.certificate[self.position]
        word = fault_of(self.rule, entry, part.link)
        if word is not None:
            raise Refused(word, self.position)
        self.position += 1
        key, row, left, right = entry
        return Part(part.link, (key, row, linked_part(left), linked_part(right)), True)

    def finish(self):
        """Refuse the certificate if entries are left at the end of the walk."""
        if self.position < len(self.certificate):
            raise Refused("long", self.position)


def fault_of(rule, entry, link):
    """Return the word with which an entry is refused for a part with a link, or None if it is taken."""
    if not is_entry(entry):
        return "form"
    own_link = entry_link(rule, entry)
    if own_link[0] != link[0]:
        return "digest"
    if own_link != link:
        return "sums"
    return None
