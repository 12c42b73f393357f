"""The history of a key in several versions (point 35)."""

from rightrows.reading import answered, read
from rightrows.versions import is_line


def certified_history(rule, tables, key):
    """Return the list of the rows of a key in several tables and the list of their right certificates."""
    found = [answered(rule, table, ("get", key)) for table in tables]
    return ([row for row, _ in found], [certificate for _, certificate in found])


def read_history(rule, versions, key, certificates):
    """Return the list of the rows of a key in several versions, or the refusal of the first wrong thing."""
    if len(versions) == 0 or not is_line(rule, versions):
        return ("refused", "path", 0, 0)
    if len(certificates) != len(versions):
        return ("refused", "count", len(certificates), 0)
    rows = []
    for index, (version, certificate) in enumerate(zip(versions, certificates)):
        told = read(rule, version[1], ("get", key), certificate)
        if told[0] == "refused":
            return ("refused", told[1], index, told[2])
        rows.append(told[1])
    return ("answer", rows)


def turns(rows):
    """Return the list of the indexes at which a row differs from the one before."""
    return [index for index in range(1, len(rows)) if rows[index] != rows[index - 1]]
