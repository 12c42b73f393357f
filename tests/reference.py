"""What the tests work out apart from the program.

The first half finds right certificates without a walk: a part of a tree is the
tuple of its pairs, and which parts are opened is told by their keys alone.
The second half is a reader that follows the document word by word.
"""

import copy
import functools
import random
import unittest

from rightrows.texts import digest

SIGNS = "abcdefghijklmnopqrstuvwxyz0123456789"
QUERIES = ("get", "range", "next", "count", "sum", "place", "at")


def rank(key):
    powers = [131 ** number for number in range(len(key), -1, -1)]
    return sum(code * power for code, power in zip([7] + [ord(sign) for sign in key], powers)) % 1000003


def stands_above(key, other):
    return (-rank(key), key) < (-rank(other), other)


# Trees by their pairs

@functools.lru_cache(maxsize=None)
def top(pairs):
    return min(pairs, key=lambda pair: (-rank(pair[0]), pair[0]))


def below(pairs, key):
    return tuple(pair for pair in pairs if pair[0] < key)


def above(pairs, key):
    return tuple(pair for pair in pairs if pair[0] > key)


@functools.lru_cache(maxsize=None)
def link(rule, pairs):
    if not pairs:
        return (digest(rule, ("empty",)), 0, (0, 0, 0))
    sums = tuple(sum(row[column] for _, row in pairs if column < len(row)) for column in range(3))
    return (digest(rule, ("node",) + entry(rule, pairs)), len(pairs), sums)


@functools.lru_cache(maxsize=None)
def entry(rule, pairs):
    key, row = top(pairs)
    return (key, row, link(rule, below(pairs, key)), link(rule, above(pairs, key)))


def parts(pairs, passed=()):
    """The parts of a tree, a root before its left and that before its right, with the keys above each."""
    if not pairs:
        return []
    key = top(pairs)[0]
    passed_on = passed + (key,)
    return [(pairs, passed)] + parts(below(pairs, key), passed_on) + parts(above(pairs, key), passed_on)


# Right certificates, told by the keys

def query_parts(table, query):
    name = query[0]
    opened = []
    for part, passed in parts(tuple(table)):
        first = part[0][0]
        if name == "get":
            wanted = all(key != query[1] and (first < key) == (query[1] < key) for key in passed)
        elif name == "range":
            wanted = all(query[1] < key if first < key else key < query[2] for key in passed)
        elif name == "next":
            before = [key for key, _ in table if query[1] < key < first]
            wanted = all(query[1] < key for key in passed if first < key) and len(before) < query[2]
        elif name in ("count", "sum"):
            wanted = is_opened_for_range(passed, first, *query[-2:])
        elif name == "place":
            wanted = all((first < key) == (query[1] <= key) for key in passed)
        else:
            key = table[query[1]][0] if query[1] < len(table) else None
            wanted = key is not None and all(
                upper != key and (first < upper) == (key < upper) for upper in passed)
        if wanted:
            opened.append(part)
    return opened


def is_opened_for_range(passed, first, low, high):
    for number in range(len(passed) + 1):
        lower = [key for key in passed[:number] if key < first]
        greater = [key for key in passed[:number] if key > first]
        fits_low = not low or bool(lower) and low <= max(lower)
        if fits_low and greater and min(greater) <= high:
            return False
        if number < len(passed):
            key = passed[number]
            if not (low < key if first < key else key < high):
                return False
    return True


def query_certificate(rule, table, query):
    return [entry(rule, part) for part in query_parts(table, query)]


def change_certificate(rule, table, change):
    opened = query_parts(table, ("get", change[1]))
    if change[0] == "remove" and opened and top(opened[-1])[0] == change[1]:
        opened = opened + merge_parts(below(opened[-1], change[1]), above(opened[-1], change[1]))
    return [entry(rule, part) for part in opened]


def spine(pairs, cut):
    """The parts that one comes to by always taking a side."""
    found = []
    while pairs:
        found.append(pairs)
        pairs = cut(pairs, top(pairs)[0])
    return found


def merge_parts(first, second):
    """The parts that a merge opens: both sides in turn, the next one after whichever became a root."""
    lefts, rights = spine(first, above), spine(second, below)
    if not lefts or not rights:
        return []
    opened = [lefts[0], rights[0]]
    left, right = 0, 0
    while True:
        if stands_above(top(lefts[left])[0], top(rights[right])[0]):
            left += 1
            if left == len(lefts):
                return opened
            opened.append(lefts[left])
        else:
            right += 1
            if right == len(rights):
                return opened
            opened.append(rights[right])


def batch_certificate(rule, table, changes):
    """The entries of the parts that each change passes, but for those whose roots are open or made already."""
    found = []
    open_keys = set()
    for change in changes:
        for value in change_certificate(rule, table, change):
            if value[0] not in open_keys:
                found.append(value)
                open_keys.add(value[0])
        rows = dict(table)
        if change[0] == "put":
            rows[change[1]] = change[2]
            open_keys.add(change[1])
        else:
            rows.pop(change[1], None)
            open_keys.discard(change[1])
        table = sorted(rows.items())
    return found


class Pairing:
    """Joins and differences over parts that are tuples of pairs; what is open is told by keys."""

    def __init__(self, rule, first, second):
        self.rule = rule
        self.first = tuple(first)
        self.second = tuple(second)
        self.certificate = []
        self.open_keys = set()
        self.skipped = []

    def open_first(self, part):
        self.certificate.append(entry(self.rule, part))

    def open_second(self, part):
        key = top(part)[0]
        if key not in self.open_keys:
            self.open_keys.add(key)
            self.certificate.append(entry(self.rule, part))

    def cut(self, part, key):
        for passed in query_parts(part, ("get", key)):
            self.open_second(passed)
        return below(part, key), dict(part).get(key), above(part, key)

    def join(self, low, high):
        return self.joined(self.first, self.second, low, high)

    def joined(self, first, second, low, high):
        if not first or not second:
            return []
        self.open_first(first)
        key, row = top(first)
        lower, other, greater = self.cut(second, key)
        rows = self.joined(below(first, key), lower, low, high) if low < key else []
        if low <= key < high and other is not None:
            rows = rows + [(key, row, other)]
        return rows + (self.joined(above(first, key), greater, low, high) if key < high else [])

    def differences(self):
        return self.compared(self.first, self.second)

    def compared(self, first, second):
        if link(self.rule, first) == link(self.rule, second):
            self.skipped.append((first, second))
            return []
        if not first:
            for part, _ in parts(second):
                self.open_second(part)
            return [(key, None, row) for key, row in second]
        if not second:
            for part, _ in parts(first):
                self.open_first(part)
            return [(key, row, None) for key, row in first]
        self.open_first(first)
        key, row = top(first)
        lower, other, greater = self.cut(second, key)
        changes = self.compared(below(first, key), lower)
        own = [(key, row, other)] if row != other else []
        return changes + own + self.compared(above(first, key), greater)

    def clash(self):
        """The clash of the tables, after the differences."""
        for first, second in self.skipped:
            found = self.first_clash(first, second)
            if found is not None:
                return found
        return None

    def first_clash(self, first, second):
        if first == second:
            return None
        entries = entry(self.rule, first), entry(self.rule, second)
        if entries[0] != entries[1]:
            return entries
        keys = top(first)[0], top(second)[0]
        return (self.first_clash(below(first, keys[0]), below(second, keys[1]))
                or self.first_clash(above(first, keys[0]), above(second, keys[1])))


# A reader that follows the document word by word

class Refusal(Exception):

    def __init__(self, word, number):
        Exception.__init__(self, word, number)
        self.told = ("refused", word, number)


def is_number(value):
    return type(value) is int and value >= 0


def is_link(value):
    return (type(value) is tuple and len(value) == 3 and is_number(value[0]) and is_number(value[1])
            and type(value[2]) is tuple and len(value[2]) == 3 and all(map(is_number, value[2])))


def is_entry(value):
    return (type(value) is tuple and len(value) == 4
            and type(value[0]) is str and 1 <= len(value[0]) <= 8 and all(sign in SIGNS for sign in value[0])
            and type(value[1]) is tuple and 1 <= len(value[1]) <= 3
            and all(is_number(number) and number <= 65535 for number in value[1])
            and is_link(value[2]) and is_link(value[3]))


def entry_link(rule, value):
    row, left, right = value[1] + (0, 0), value[2], value[3]
    sums = tuple(row[column] + left[2][column] + right[2][column] for column in range(3))
    return (digest(rule, ("node",) + value), left[1] + right[1] + 1, sums)


class Given:
    """Gives the entries of a certificate, or refuses them."""

    def __init__(self, rule, certificate):
        self.rule = rule
        self.certificate = certificate
        self.number = 0

    def take(self, wanted):
        if self.number >= len(self.certificate):
            raise Refusal("short", self.number)
        given = self.certificate[self.number]
        if not is_entry(given):
            raise Refusal("form", self.number)
        found = entry_link(self.rule, given)
        if found[0] != wanted[0]:
            raise Refusal("digest", self.number)
        if found[1] != wanted[1] or found[2] != wanted[2]:
            raise Refusal("sums", self.number)
        self.number += 1
        return given

    def end(self):
        if self.number < len(self.certificate):
            raise Refusal("long", self.number)


class NoForgery(Exception):
    """No entry was found that would be taken."""


class Forger:
    """Gives entries that it makes up so that they are taken. It keeps to some keys, and now and then to the truth."""

    def __init__(self, rule, seed, keys, truth=()):
        self.rule = rule
        self.random = random.Random(seed)
        self.keys = keys
        self.truth = list(truth)
        self.certificate = []

    def take(self, wanted):
        given = self.true_entry(wanted) if self.random.random() < 0.5 else None
        tries = 0
        while given is None:
            made = self.made_up(wanted)
            given = made if entry_link(self.rule, made) == wanted else None
            tries += 1
            if tries > 300:
                raise NoForgery()
        self.certificate.append(given)
        return given

    def true_entry(self, wanted):
        fitting = [one for one in self.truth if entry_link(self.rule, one) == wanted]
        return self.random.choice(fitting) if fitting else None

    def made_up(self, wanted):
        row = tuple(self.random.randint(0, min(wanted[2][column], 65535))
                    for column in range(self.random.randint(1, 3)))
        left_count = self.random.randint(0, wanted[1] - 1)
        left_sums, right_sums = [], []
        for column in range(3):
            rest = wanted[2][column] - (row[column] if column < len(row) else 0)
            share = self.random.choice([0, rest, self.random.randint(0, rest)])
            left_sums.append(share)
            right_sums.append(rest - share)
        return (self.random.choice(self.keys), row, self.made_up_link(left_count, left_sums),
                self.made_up_link(wanted[1] - 1 - left_count, right_sums))

    def made_up_link(self, count, sums):
        # No entry has a digest from the modulus on, but the link of an empty part may have one.
        greatest = self.rule[1] - 1 if count else self.rule[1] + 2
        return (self.random.randint(0, greatest), count, tuple(sums))

    def end(self):
        pass


class Node:

    def __init__(self, its_link):
        self.link = its_link
        self.is_open = False

    @property
    def count(self):
        return self.link[1]


class WordByWord:
    """The walks of points 12 to 19, each with the recursion that the document tells."""

    def __init__(self, rule, source):
        self.rule = rule
        self.source = source

    def open(self, node):
        if not node.is_open:
            node.key, node.row, left, right = self.source.take(node.link)
            node.left, node.right = Node(left), Node(right)
            node.is_open = True

    def empty(self):
        return Node((digest(self.rule, ("empty",)), 0, (0, 0, 0)))

    def made(self, key, row, left, right):
        node = Node(entry_link(self.rule, (key, row, left.link, right.link)))
        node.key, node.row, node.left, node.right, node.is_open = key, row, left, right, True
        return node

    def query(self, head, query):
        self.pairs = []
        self.total = 0
        result = getattr(self, query[0])(Node(head), *query[1:])
        self.source.end()
        return ("answer", result)

    def get(self, node, key):
        if node.count == 0:
            return None
        self.open(node)
        if node.key == key:
            return node.row
        return self.get(node.left if key < node.key else node.right, key)

    def range(self, node, low, high):
        if node.count != 0:
            self.open(node)
            if low < node.key:
                self.range(node.left, low, high)
            if low <= node.key < high:
                self.pairs.append((node.key, node.row))
            if node.key < high:
                self.range(node.right, low, high)
        return self.pairs

    def next(self, node, key, count):
        if node.count != 0 and len(self.pairs) != count:
            self.open(node)
            if key < node.key:
                self.next(node.left, key, count)
                if len(self.pairs) < count:
                    self.pairs.append((node.key, node.row))
            self.next(node.right, key, count)
        return self.pairs

    def count(self, node, low, high):
        self.add_up(node, low, high, None, None, lambda count, sums: count)
        return self.total

    def sum(self, node, column, low, high):
        self.add_up(node, low, high, None, None, lambda count, sums: (sums + (0, 0))[column])
        return self.total

    def add_up(self, node, low, high, former, latter, weight):
        if node.count == 0:
            return
        low_holds = low == "" or former is not None and not low > former
        high_holds = latter is not None and not latter > high
        if low_holds and high_holds:
            self.total += weight(node.count, node.link[2])
            return
        self.open(node)
        if low <= node.key < high:
            self.total += weight(1, node.row)
        if low < node.key:
            self.add_up(node.left, low, high, former, node.key, weight)
        if node.key < high:
            self.add_up(node.right, low, high, node.key, latter, weight)

    def place(self, node, key):
        if node.count == 0:
            return 0
        self.open(node)
        if not key > node.key:
            return self.place(node.left, key)
        return node.left.count + 1 + self.place(node.right, key)

    def at(self, node, place):
        if node.count == 0 or not place < node.count:
            return None
        self.open(node)
        if place == node.left.count:
            return (node.key, node.row)
        if place < node.left.count:
            return self.at(node.left, place)
        return self.at(node.right, place - node.left.count - 1)

    def change(self, head, change):
        node = getattr(self, change[0])(Node(head), *change[1:])
        self.source.end()
        return ("head", node.link)

    def batch(self, head, changes):
        node = Node(head)
        for change in changes:
            node = getattr(self, change[0])(node, *change[1:])
        self.source.end()
        return ("head", node.link)

    def put(self, node, key, row):
        if node.count == 0:
            return self.made(key, row, self.empty(), self.empty())
        self.open(node)
        if node.key == key:
            return self.made(key, row, node.left, node.right)
        if stands_above(key, node.key):
            lower, _, greater = self.split(node, key)
            return self.made(key, row, lower, greater)
        if key < node.key:
            return self.made(node.key, node.row, self.put(node.left, key, row), node.right)
        return self.made(node.key, node.row, node.left, self.put(node.right, key, row))

    def split(self, node, key):
        if node.count == 0:
            return self.empty(), None, self.empty()
        self.open(node)
        if node.key == key:
            return node.left, node.row, node.right
        if key < node.key:
            lower, row, greater = self.split(node.left, key)
            return lower, row, self.made(node.key, node.row, greater, node.right)
        lower, row, greater = self.split(node.right, key)
        return self.made(node.key, node.row, node.left, lower), row, greater

    def remove(self, node, key):
        if node.count == 0:
            return node
        self.open(node)
        if node.key == key:
            return self.merge(node.left, node.right)
        if key < node.key:
            return self.made(node.key, node.row, self.remove(node.left, key), node.right)
        return self.made(node.key, node.row, node.left, self.remove(node.right, key))

    def merge(self, first, second):
        if first.count == 0:
            return second
        if second.count == 0:
            return first
        self.open(first)
        self.open(second)
        if stands_above(first.key, second.key):
            return self.made(first.key, first.row, first.left, self.merge(first.right, second))
        return self.made(second.key, second.row, self.merge(first, second.left), second.right)

    def join(self, first, second, low, high):
        rows = self.joined(Node(first), Node(second), low, high)
        self.source.end()
        return ("answer", rows)

    def joined(self, first, second, low, high):
        if first.count == 0 or second.count == 0:
            return []
        self.open(first)
        lower, other, greater = self.split(second, first.key)
        rows = self.joined(first.left, lower, low, high) if low < first.key else []
        if low <= first.key < high and other is not None:
            rows.append((first.key, first.row, other))
        return rows + (self.joined(first.right, greater, low, high) if first.key < high else [])

    def differences(self, first, second):
        changes = self.compared(Node(first), Node(second))
        self.source.end()
        return ("answer", changes)

    def compared(self, first, second):
        if first.link == second.link:
            return []
        if first.count == 0:
            return self.told(second, lambda row: (None, row))
        if second.count == 0:
            return self.told(first, lambda row: (row, None))
        self.open(first)
        lower, other, greater = self.split(second, first.key)
        changes = self.compared(first.left, lower)
        if other is None or other != first.row:
            changes.append((first.key, first.row, other))
        return changes + self.compared(first.right, greater)

    def told(self, node, rows):
        if node.count == 0:
            return []
        self.open(node)
        return self.told(node.left, rows) + [(node.key,) + rows(node.row)] + self.told(node.right, rows)


def word_by_word(rule, certificate, walk):
    """What the reader that follows the document says of a certificate."""
    try:
        return walk(WordByWord(rule, Given(rule, certificate)))
    except Refusal as refusal:
        return refusal.told


# Versions and seals, value by value

def line_of(rule, heads):
    """Versions with some heads, each worked out from the one before."""
    found = [(0, heads[0], 0)]
    for number, head in enumerate(heads[1:], start=1):
        found.append((number, head, digest(rule, ("version",) + found[-1])))
    return found


CARD_PLACES = ((0, 0), (0, 1), (1, 0), (1, 1))


def on_from(rule, number, digit, way, steps, value):
    """The values of a chain from the one after some steps to the one after 15."""
    values = [value]
    for step in range(steps, 15):
        values.append(digest(rule, ("chain", number, digit, way, step, values[-1])))
    return values


def chain_values(rule, secret, number, digit, way):
    """The values of a chain after 0 to 15 steps."""
    return on_from(rule, number, digit, way, 0, digest(rule, ("secret", secret, number, digit, way)))


def card(rule, secret, number):
    return tuple(chain_values(rule, secret, number, digit, way)[15] for digit, way in CARD_PLACES)


def cards(rule, secret, many):
    return [card(rule, secret, number) for number in range(many)]


def digits_to_seal(rule, number, value):
    mark = digest(rule, ("sealed", number, value)) % 256
    return mark % 16, mark // 16


def seal(rule, secret, number, value):
    low, high = digits_to_seal(rule, number, value)
    steps = low, 15 - low, high, 15 - high
    return tuple(chain_values(rule, secret, number, digit, way)[many]
                 for (digit, way), many in zip(CARD_PLACES, steps))


def fits(rule, its_card, number, value, given):
    """Whether a seal fits a card, told value by value."""
    low, high = digits_to_seal(rule, number, value)
    steps = low, 15 - low, high, 15 - high
    return len(given) == 4 and all(
        on_from(rule, number, digit, way, many, part)[-1] == goal
        for (digit, way), many, part, goal in zip(CARD_PLACES, steps, given, its_card))


def sealed(rule, secret, version):
    return (version, seal(rule, secret, version[0], version))


def sealed_line(rule, secret, heads):
    """Sealed versions with some heads."""
    return [sealed(rule, secret, version) for version in line_of(rule, heads)]


# Tables, queries and changes for many tests

EQUAL_RANKS = ("aaxr", "eb00", "ibjq")


def random_table(source, many, widest=65535):
    """A table with keys of several lengths, of which some stand close to others."""
    keys = set()
    while len(keys) < many:
        keys.add("".join(source.choice(SIGNS[:6]) for _ in range(source.randint(1, 5))))
        if source.random() < 0.2 and len(keys) < many:
            keys.add(source.choice(EQUAL_RANKS))
    return [(key, random_row(source, widest)) for key in sorted(keys)]


def random_row(source, widest=65535):
    return tuple(source.randint(0, widest) for _ in range(source.randint(1, 3)))


def random_bound(source, table):
    keys = [key for key, _ in table] + ["", "a", "zzzzzzzzz"]
    key = source.choice(keys)
    return source.choice([key, key, key[:8] + "0", key[:-1]])


def random_key(source, table):
    return random_bound(source, table)[:8] or "m"


def random_query(source, table):
    name = source.choice(QUERIES)
    if name == "get":
        return (name, random_key(source, table))
    if name in ("range", "count"):
        return (name, random_bound(source, table), random_bound(source, table))
    if name == "next":
        return (name, random_bound(source, table), source.choice([0, 1, 2, len(table), 100]))
    if name == "sum":
        return (name, source.randrange(3), random_bound(source, table), random_bound(source, table))
    if name == "place":
        return (name, random_bound(source, table))
    return (name, source.randrange(len(table) + 2))


def random_change(source, table):
    if source.random() < 0.5:
        return ("put", random_key(source, table), random_row(source))
    return ("remove", random_key(source, table))


def nearby_table(source, table):
    """A table that shares most of its rows with another one."""
    rows = dict(table)
    for _ in range(source.randint(0, 4)):
        change = random_change(source, table)
        if change[0] == "put":
            rows[change[1]] = change[2]
        else:
            rows.pop(change[1], None)
    return sorted(rows.items())


# A tree that was worked out by hand: the ranks of its keys are told in test_trees.
#
#            date
#       apple    kiwi
#              fig  plum
#                 lime
#                    pear

RULE = (131, 1000000007)
FRUIT = [("apple", (5, 1, 9)), ("date", (4,)), ("fig", (7,)), ("kiwi", (1, 2)), ("lime", (0, 65535)),
         ("pear", (2, 3, 4)), ("plum", (65535,))]


def fruit_links(rule):
    """The links of the parts of the tree, by the keys of their roots; "" is that of the empty tree."""
    def linked(key, row, left, right, count, sums):
        return (digest(rule, ("node", key, row, left, right)), count, sums)

    links = {"": (digest(rule, ("empty",)), 0, (0, 0, 0))}
    links["apple"] = linked("apple", (5, 1, 9), links[""], links[""], 1, (5, 1, 9))
    links["fig"] = linked("fig", (7,), links[""], links[""], 1, (7, 0, 0))
    links["pear"] = linked("pear", (2, 3, 4), links[""], links[""], 1, (2, 3, 4))
    links["lime"] = linked("lime", (0, 65535), links[""], links["pear"], 2, (2, 65538, 4))
    links["plum"] = linked("plum", (65535,), links["lime"], links[""], 3, (65537, 65538, 4))
    links["kiwi"] = linked("kiwi", (1, 2), links["fig"], links["plum"], 5, (65545, 65540, 4))
    links["date"] = linked("date", (4,), links["apple"], links["kiwi"], 7, (65554, 65541, 13))
    return links


def fruit_entries(rule, keys):
    """The entries of some keys (one string, with blanks) of the tree, in their order."""
    links = fruit_links(rule)
    sides = {"apple": ("", ""), "fig": ("", ""), "pear": ("", ""), "lime": ("", "pear"), "plum": ("lime", ""),
             "kiwi": ("fig", "plum"), "date": ("apple", "kiwi")}
    return [(key, dict(FRUIT)[key], links[sides[key][0]], links[sides[key][1]]) for key in keys.split()]


# A second table beside it, with date at its root, fig on the right of that,
# plum on the right of fig and lime on the left of plum.

OTHER = [("date", (8,)), ("fig", (7,)), ("lime", (1,)), ("plum", (3,))]


def other_entries(rule, keys):
    empty = fruit_links(rule)[""]
    lime = ("lime", (1,), empty, empty)
    plum = ("plum", (3,), (digest(rule, ("node",) + lime), 1, (1, 0, 0)), empty)
    fig = ("fig", (7,), empty, (digest(rule, ("node",) + plum), 2, (4, 0, 0)))
    date = ("date", (8,), empty, (digest(rule, ("node",) + fig), 3, (11, 0, 0)))
    entries = {"date": date, "fig": fig, "plum": plum, "lime": lime}
    return [entries[key] for key in keys.split()]


def chain_table(many):
    """A table whose tree is as deep as it has rows: short keys in ascending order have ascending ranks."""
    keys = [first + second for first in SIGNS[:26] for second in SIGNS[:26]]
    return [(key, (number, 1)) for number, key in enumerate(keys[:many])]


class KeepingTest(unittest.TestCase):
    """A test that also sees that the arguments of a function stay as they were."""

    def kept(self, function, *arguments):
        before = copy.deepcopy(arguments)
        result = function(*arguments)
        self.assertEqual(arguments, before)
        return result
