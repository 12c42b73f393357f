"""Versions of tables: tuples of a number, a head and the digest of the version before."""

from rightrows.texts import digest


def version_digest(rule, version):
    """Return the digest of a version (point 26)."""
    number, head, before = version
    return digest(rule, ("version", number, head, before))


def first_version(head):
    """Return the first version (point 26)."""
    return (0, head, 0)


def next_version(rule, version, head):
    """Return the version with a head that is the next one after a version (point 26)."""
    return (version[0] + 1, head, version_digest(rule, version))


def is_line(rule, versions):
    """Return True if each version of a list is followed by its next one, otherwise False."""
    return all([following == next_version(rule, version, following[1])
                for version, following in zip(versions, versions[1:])])


def follows(rule, earlier, later, path):
    """Return True if a path leads from the earlier to the later version (point 26)."""
    return is_line(rule, [earlier] + path + [later])


def clash_of_paths(rule, honest, given):
    """Return the last two different versions of two lists if they have the same digest, or None (point 27)."""
    for version, other in zip(honest[::-1], given[::-1]):
        if version != other:
            if version_digest(rule, version) == version_digest(rule, other):
                return (version, other)
            return None
    return None
