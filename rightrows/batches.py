"""Several changes carried over a head with one certificate (point 34)."""

from rightrows.openers import Recorder
from rightrows.reading import outcome
from rightrows.splices import spliced
from rightrows.trees import linked_part, tree_of


def all_spliced(opener, tree, changes):
    """Return the tree after several changes, each made on the tree that the one before has left."""
    # What a change opens or makes stays open in the tree that it leaves.
    for change in changes:
        tree = spliced(opener, tree, change)
    return tree


def certified_batch(rule, table, changes):
    """Return the head of the table after all changes and their right certificate."""
    recorder = Recorder(rule)
    head = all_spliced(recorder, tree_of(rule, table), changes).link
    return (head, recorder.certificate)


def read_batch(rule, head, changes, certificate):
    """Return the head to which several changes lead from a head by a certificate, or its refusal."""
    return outcome("head", rule, certificate, lambda reader: all_spliced(reader, linked_part(head), changes).link)
