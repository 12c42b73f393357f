"""What two readers find when they compare the sealed versions that they have taken."""

from rightrows.seals import is_sealed_version


def is_double(rule, cards, first, second):
    """Return True if two sealed versions are a double for cards (point 30), otherwise False."""
    if first[0][0] != second[0][0] or first[0] == second[0]:
        return False
    return is_sealed_version(rule, cards, first) and is_sealed_version(rule, cards, second)


def parting(first, second):
    """Return the first two sealed versions with the same number and different versions, or None (point 33)."""
    own = {sealed[0][0]: sealed for sealed in first}
    for sealed in sorted(second, key=lambda one: one[0][0]):
        found = own.get(sealed[0][0])
        if found is not None and found[0] != sealed[0]:
            return (found, sealed)
    return None
