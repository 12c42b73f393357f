"""Keys, rows and tables, the queries and changes, and what two tables share.

A table is a list of pairs of a key and a row, in ascending order of the keys.
"""

KEY_SIGNS = "abcdefghijklmnopqrstuvwxyz0123456789"
LONGEST_KEY = 8
LONGEST_BOUND = 9
WIDEST_ROW = 3
GREATEST_NUMBER = 65535
MOST_PAIRS = 100


def has_key_signs(text):
    """Return True if a string has lower-case letters and digits only."""
    return all([sign in KEY_SIGNS for sign in text])


def is_key(text):
    """Return True if a string is a key (point 3), otherwise False."""
    return 1 <= len(text) <= LONGEST_KEY and has_key_signs(text)


def is_bound(text):
    """Return True if a string is a bound of a range (point 4), which may be empty."""
    return len(text) <= LONGEST_BOUND and has_key_signs(text)


def is_row(numbers):
    """Return True if a tuple of integers is a row (point 3), otherwise False."""
    return 1 <= len(numbers) <= WIDEST_ROW and all([0 <= number <= GREATEST_NUMBER for number in numbers])


def is_table(table):
    """Return True if a list of pairs of a string and a tuple of integers is a table (point 3)."""
    if len(table) > MOST_PAIRS:
        return False
    if not all([is_key(key) and is_row(row) for key, row in table]):
        return False
    keys = [pair[0] for pair in table]
    return all([key < following for key, following in zip(keys, keys[1:])])


def in_range(key, low, high):
    """Return True if a key is in the range from low to high (point 4)."""
    return low <= key < high


def column_of(row, column):
    """Return the integer of a row in a column, 0 if the row does not have the column."""
    return row[column] if 0 <= column < len(row) else 0


def row_of(table, key):
    """Return the row of a key, or None."""
    rows = dict(table)
    return rows.get(key)


def pairs_in_range(table, low, high):
    """Return the list of the pairs of a table in a range."""
    return [pair for pair in table if in_range(pair[0], low, high)]


def pairs_below(table, key):
    """Return the list of the pairs of a table with lower keys."""
    return [pair for pair in table if pair[0] < key]


def pairs_above(table, key):
    """Return the list of the pairs of a table with greater keys."""
    return [pair for pair in table if pair[0] > key]


def first_pairs(pairs, count):
    """Return the list of the first pairs, as many as the count says or as there are."""
    # A slice to a negative end would leave pairs out at the end.
    return pairs[:max(0, count)]


def column_sum(pairs, column):
    """Return the sum of a column over the rows of a list of pairs."""
    return sum([column_of(row, column) for _, row in pairs])


def pair_at(table, place):
    """Return the pair at an index of a table, or None if there is none."""
    return table[place] if 0 <= place < len(table) else None


def answer(table, query):
    """Return the answer of a table to a query (point 5)."""
    match query:
        case ("get", key):
            return row_of(table, key)
        case ("range", low, high):
            return pairs_in_range(table, low, high)
        case ("next", key, count):
            return first_pairs(pairs_above(table, key), count)
        case ("count", low, high):
            return len(pairs_in_range(table, low, high))
        case ("sum", column, low, high):
            return column_sum(pairs_in_range(table, low, high), column)
        case ("place", key):
            return len(pairs_below(table, key))
        case ("at", place):
            return pair_at(table, place)


def changed_table(table, change):
    """Return the table after a change, a new list (point 6)."""
    key = change[1]
    own_pairs = [(key, change[2])] if change[0] == "put" else []
    return pairs_below(table, key) + own_pairs + pairs_above(table, key)


def changes_between(first, second):
    """Return the list of the changes between two tables (point 20)."""
    old_rows = dict(first)
    new_rows = dict(second)
    keys = sorted({pair[0] for pair in first + second})
    changes = [(key, old_rows.get(key), new_rows.get(key)) for key in keys]
    return [(key, old, new) for key, old, new in changes if old != new]


def joined_rows(first, second, low, high):
    """Return the list of the keys in a range that both tables have, each with both rows."""
    second_rows = dict(second)
    return [(key, row, second_rows[key])
            for key, row in pairs_in_range(first, low, high) if key in second_rows]
