"""Written tables, queries and changes."""

from rightrows.errors import InvalidLine, InvalidWord
from rightrows.tables import WIDEST_ROW, is_bound, is_key, is_row

DIGITS = "0123456789"
# What stands behind each name. A row has one integer or more.
PLACES = {
    "get": ("key",),
    "range": ("bound", "bound"),
    "next": ("bound", "count"),
    "count": ("bound", "bound"),
    "sum": ("column", "bound", "bound"),
    "place": ("bound",),
    "at": ("place",),
    "put": ("key", "row"),
    "remove": ("key",),
}
GREATEST = {"count": 100, "column": 2, "row": 65535, "place": 99999}


def number_of(word, greatest):
    """Return the integer from 0 to the greatest one that a word is, without leading zeros, or None."""
    # Python refuses to read very long integers, so that the length is looked at first.
    if not 1 <= len(word) <= len(str(greatest)) or not all([sign in DIGITS for sign in word]):
        return None
    if word[0] == "0" and word != "0":
        return None
    number = int(word)
    return number if number <= greatest else None


def line_of(key, row):
    """Return a pair of a key and a row as a line."""
    return " ".join([key] + [str(number) for number in row])


def format_table(table):
    """Return a table as a string (point 37)."""
    return "\n".join([line_of(key, row) for key, row in table])


def pair_of(line):
    """Return the pair of a key and a row that a line is, or None."""
    words = line.split(" ")
    row = tuple([number_of(word, GREATEST["row"]) for word in words[1:]])
    if None in row or not is_row(row) or not is_key(words[0]):
        return None
    return (words[0], row)


def parse_table(text):
    """Return the table that a string is (point 37)."""
    if text == "":
        return []
    table = []
    for number, line in enumerate(text.split("\n")):
        pair = pair_of(line)
        if pair is None or (table and pair[0] <= table[-1][0]):
            raise InvalidLine(number)
        table.append(pair)
    return table


def is_query(wish):
    """Return True if a wish is a query, False if it is a change."""
    return wish[0] not in ("put", "remove")


def word_of(member):
    """Return a member of a wish, a string or an integer, as a word."""
    return "-" if member == "" else str(member)


def format_wish(wish):
    """Return a query or a change as a string (point 38)."""
    members = wish[:2] + wish[2] if wish[0] == "put" else wish
    return " ".join([word_of(member) for member in members])


def member_of(word, kind):
    """Return what a word is at a place of a kind, or None if it is not valid there."""
    if kind == "key":
        return word if is_key(word) else None
    if kind == "bound":
        bound = "" if word == "-" else word
        return bound if word != "" and is_bound(bound) else None
    return number_of(word, GREATEST[kind])


def kinds_behind(name, many):
    """Return the kinds of the places behind a name, where many words stand."""
    kinds = PLACES[name]
    if name == "put":
        kinds = kinds + ("row",) * min(many - len(kinds), WIDEST_ROW - 1)
    return kinds


def parse_wish(text):
    """Return the query or the change that a string is, a tuple (point 38)."""
    words = text.split(" ")
    name = words[0]
    if name not in PLACES:
        raise InvalidWord(0)
    kinds = kinds_behind(name, len(words) - 1)
    members = []
    for number, kind in enumerate(kinds, start=1):
        member = member_of(words[number], kind) if number < len(words) else None
        if member is None:
            raise InvalidWord(number)
        members.append(member)
    if len(words) - 1 > len(kinds):
        raise InvalidWord(len(kinds) + 1)
    if name == "put":
        return ("put", members[0], tuple(members[1:]))
    return tuple([name] + members)
