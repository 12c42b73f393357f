"""Answers with their right certificates, and the readers of certificates.

The walks are the same for both: a recorder opens the parts of the trees of
tables, a reader opens parts with the entries of a certificate.
"""

from rightrows.errors import Refused
from rightrows.openers import Reader, Recorder
from rightrows.pairings import compared, joined
from rightrows.queries import queried
from rightrows.splices import spliced
from rightrows.trees import linked_part, tree_of


def outcome(word, rule, certificate, walk):
    """Return a word and what a walk with the certificate gives, or the refusal of the certificate (point 21)."""
    reader = Reader(rule, certificate)
    try:
        result = walk(reader)
        reader.finish()
    except Refused as refusal:
        return ("refused", refusal.word, refusal.number)
    return (word, result)


def answered(rule, table, query):
    """Return the answer to a query and its right certificate."""
    recorder = Recorder(rule)
    answer = queried(recorder, tree_of(rule, table), query)
    return (answer, recorder.certificate)


def read(rule, head, query, certificate):
    """Return the answer that a certificate gives to a query, or its refusal."""
    return outcome("answer", rule, certificate, lambda reader: queried(reader, linked_part(head), query))


def certified_change(rule, table, change):
    """Return the head of the changed table and the right certificate of the change."""
    recorder = Recorder(rule)
    head = spliced(recorder, tree_of(rule, table), change).link
    return (head, recorder.certificate)


def read_change(rule, head, change, certificate):
    """Return the head to which a change leads from a head by a certificate, or its refusal."""
    return outcome("head", rule, certificate, lambda reader: spliced(reader, linked_part(head), change).link)


def certified_join(rule, first, second, low, high):
    """Return the joined rows of two tables in a range and their right certificate."""
    recorder = Recorder(rule)
    rows = joined(recorder, tree_of(rule, first), tree_of(rule, second), low, high)
    return (rows, recorder.certificate)


def read_join(rule, first, second, bounds, certificate):
    """Return the joined rows that a certificate gives for two heads, or its refusal."""
    low, high = bounds
    return outcome("answer", rule, certificate,
                   lambda reader: joined(reader, linked_part(first), linked_part(second), low, high))


def certified_differences(rule, first, second):
    """Return the changes that the walk over two tables finds and its right certificate."""
    recorder = Recorder(rule)
    changes, _ = compared(recorder, tree_of(rule, first), tree_of(rule, second))
    return (changes, recorder.certificate)


def read_differences(rule, first, second, certificate):
    """Return the changes that a certificate gives between two heads, or its refusal."""
    return outcome("answer", rule, certificate,
                   lambda reader: compared(reader, linked_part(first), linked_part(second))[0])
