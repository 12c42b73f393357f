"""Tests of what the document promises over the whole program: the interface, its examples, and that lists stay apart."""

import copy
import doctest
import importlib
import inspect
import os
import random
import unittest

import reference as ref
from rightrows.batches import certified_batch, read_batch
from rightrows.clashes import clash, clash_of_tables
from rightrows.copies import Copy
from rightrows.histories import certified_history, read_history, turns
from rightrows.meetings import is_double, parting
from rightrows.member import Member
from rightrows.notation import format_table, format_wish, is_query, parse_table, parse_wish
from rightrows.reading import (answered, certified_change, certified_differences, certified_join, read, read_change,
                               read_differences, read_join)
from rightrows.seals import card_of, is_sealed, seal
from rightrows.store import Store
from rightrows.tables import answer, changed_table, changes_between, is_table, joined_rows
from rightrows.texts import digest, encode
from rightrows.trees import head_of, rank
from rightrows.versions import clash_of_paths, first_version, follows, next_version

FOLDER = os.path.dirname(os.path.dirname(os.path.abspath(__file__)))
LAST = "zzzzzzzzz"
# The functions of the interface by their modules, each with its arguments.
FUNCTIONS = {
    "texts": "encode(value) digest(rule, value)",
    "tables": "is_table(table) answer(table, query) changed_table(table, change) changes_between(first, second) "
              "joined_rows(first, second, low, high)",
    "trees": "rank(key) head_of(rule, table)",
    "reading": "answered(rule, table, query) read(rule, head, query, certificate) "
               "certified_change(rule, table, change) read_change(rule, head, change, certificate) "
               "certified_join(rule, first, second, low, high) read_join(rule, first, second, bounds, certificate) "
               "certified_differences(rule, first, second) read_differences(rule, first, second, certificate)",
    "clashes": "clash(rule, honest, certificate) clash_of_tables(rule, first, second)",
    "versions": "first_version(head) next_version(rule, version, head) follows(rule, earlier, later, path) "
                "clash_of_paths(rule, honest, given)",
    "seals": "card_of(rule, secret, number) seal(rule, secret, number, value) "
             "is_sealed(rule, card, number, value, given)",
    "meetings": "is_double(rule, cards, first, second) parting(first, second)",
    "batches": "certified_batch(rule, table, changes) read_batch(rule, head, changes, certificate)",
    "histories": "certified_history(rule, tables, key) read_history(rule, versions, key, certificates) turns(rows)",
    "notation": "format_table(table) parse_table(text) format_wish(wish) parse_wish(text) is_query(wish)",
}
CLASSES = {
    "store": ("Store(rule, secret, table)", "change(change) latest() table(number) sealed(number) cards() "
                                            "path(earlier, later) ask(number, query) compare(earlier, later)"),
    "member": ("Member(rule, cards, sealed)", "version() taken() follow(sealed, path) read(query, certificate) "
                                              "changes(number, certificate) change(change, certificate) meet(taken)"),
    "copies": ("Copy(rule, head, size)", "wanted() add(certificate) rows() is_whole()"),
}


def told_signatures(text):
    """The pairs of a name and its arguments, in a text such as "one(a, b) two()"."""
    return [tuple(part.split("(")) for part in text.rstrip(")").split(") ")]


def arguments_of(function):
    parameters = inspect.signature(function).parameters.values()
    assert all(one.kind == one.POSITIONAL_OR_KEYWORD and one.default is one.empty for one in parameters)
    return ", ".join(one.name for one in parameters)


class InterfaceTest(unittest.TestCase):

    def test_functions(self):
        for file, text in FUNCTIONS.items():
            module = importlib.import_module("rightrows." + file)
            for name, arguments in told_signatures(text):
                with self.subTest(name=name):
                    function = getattr(module, name)
                    self.assertEqual(arguments_of(function), arguments)
                    self.assertEqual(function.__module__, module.__name__)

    def test_classes(self):
        for file, (head, methods) in CLASSES.items():
            module = importlib.import_module("rightrows." + file)
            (name, arguments), = told_signatures(head)
            own_class = getattr(module, name)
            self.assertEqual(own_class.__module__, module.__name__)
            self.assertEqual(arguments_of(own_class), arguments)
            for method, its_arguments in told_signatures(methods):
                with self.subTest(method=method):
                    self.assertIn(method, vars(own_class))
                    expected = ", ".join(["self"] + [its_arguments] * bool(its_arguments))
                    self.assertEqual(arguments_of(vars(own_class)[method]), expected)

    def test_errors(self):
        module = importlib.import_module("rightrows.errors")
        for name in ("RightrowsError", "UnknownVersion", "TooManyVersions", "InvalidLine", "InvalidWord"):
            self.assertEqual(getattr(module, name).__module__, "rightrows.errors")
            self.assertTrue(issubclass(getattr(module, name), module.RightrowsError))


class ExamplesTest(unittest.TestCase):

    def test_examples_of_the_document(self):
        self.assertEqual(encode(("a", 5)), [2, 2, 1, 1, 97, 0, 5])
        self.assertEqual(digest((10, 1000000), ("a", 5)), 318167)
        self.assertEqual(answer([("a", (1, 2)), ("b", (3,)), ("d", (4, 5))], ("sum", 1, "a", "c")), 2)
        self.assertEqual(head_of((1, 1000000000), []), (587, 0, (0, 0, 0)))
        self.assertEqual(parse_wish("sum 1 - pear"), ("sum", 1, "", "pear"))

    def test_examples_of_the_readme(self):
        with open(os.path.join(FOLDER, "README.md"), encoding="utf-8") as file:
            text = "\n".join(line for line in file.read().split("\n") if line != "```")
        examples = doctest.DocTestParser().get_doctest(text, {}, "README.md", "README.md", 0)
        self.assertGreater(len(examples.examples), 40)
        self.assertEqual(doctest.DocTestRunner().run(examples).failed, 0)


def lists_in(value):
    """All lists in a value, the innermost ones last."""
    found = [value] if isinstance(value, list) else []
    if isinstance(value, (list, tuple)):
        for member in value:
            found.extend(lists_in(member))
    return found


def functions_with_arguments():
    """Pairs of a function of the interface and a tuple of arguments, made anew."""
    rule, table, other = ref.RULE, list(ref.FRUIT), list(ref.OTHER)
    head, other_head = head_of(rule, table), head_of(rule, other)
    queries = [("get", "fig"), ("get", "nothing"), ("range", "b", "m"), ("range", "", LAST), ("next", "", 3),
               ("next", "fig", 100), ("count", "e", LAST), ("sum", 1, "lime", LAST), ("place", "melon"), ("at", 4)]
    changes = [("put", "fig", (1, 2)), ("remove", "date"), ("put", "wren", (3,)), ("remove", "nothing")]
    tables = [table]
    for change in changes:
        tables.append(changed_table(tables[-1], change))
    sealed = ref.sealed_line(rule, 5, [head_of(rule, one) for one in tables])
    other_sealed = ref.sealed_line(rule, 5, [head_of(rule, one) for one in tables[::-1]])
    versions = [version for version, _ in sealed]
    cards = ref.cards(rule, 5, 5)
    found = [(encode, (("a", (5, "b")),)), (digest, (rule, ("a", (5, "b")))), (is_table, (table,)), (rank, ("fig",)),
             (changes_between, (table, other)), (joined_rows, (table, other, "", LAST)), (head_of, (rule, table)),
             (clash_of_tables, (rule, table, other)), (first_version, (head,)), (next_version, (rule, versions[0], head)),
             (follows, (rule, versions[0], versions[4], versions[1:4])), (card_of, (rule, 5, 3)),
             (clash_of_paths, (rule, list(versions), versions[::-1])), (seal, (rule, 5, 3, versions[3])),
             (is_sealed, (rule, cards[3], 3, versions[3], sealed[3][1])),
             (is_double, (rule, cards, sealed[3], other_sealed[3])), (parting, (sealed, other_sealed)),
             (certified_batch, (rule, table, changes)),
             (read_batch, (rule, head, changes, certified_batch(rule, table, changes)[1])),
             (certified_history, (rule, tables, "fig")),
             (read_history, (rule, versions, "fig", certified_history(rule, tables, "fig")[1])),
             (turns, ([(1,), None, (2,)],)), (format_table, (table,)), (parse_table, ("a 1\nb 2 3",)),
             (certified_join, (rule, table, other, "", LAST)), (certified_differences, (rule, table, other)),
             (read_join, (rule, head, other_head, ("", LAST), certified_join(rule, table, other, "", LAST)[1])),
             (read_differences, (rule, head, other_head, certified_differences(rule, table, other)[1]))]
    for query in queries:
        certificate = answered(rule, table, query)[1]
        found.extend([(answer, (table, query)), (answered, (rule, table, query)), (read, (rule, head, query, certificate)),
                      (read, (rule, head, query, certificate + [None])), (clash, (rule, certificate, certificate[::-1])),
                      (format_wish, (query,)), (is_query, (query,)), (parse_wish, (format_wish(query),))])
    for change in changes:
        certificate = certified_change(rule, table, change)[1]
        found.extend([(changed_table, (table, change)), (certified_change, (rule, table, change)),
                      (read_change, (rule, head, change, certificate)), (read_change, (rule, head, change, [])),
                      (format_wish, (change,)), (is_query, (change,)), (parse_wish, (format_wish(change),))])
    # No two calls have the same list.
    return [(function, copy.deepcopy(arguments)) for function, arguments in found]


class ListsTest(unittest.TestCase):

    def test_all_functions_are_there(self):
        names = {function.__name__ for function, _ in functions_with_arguments()}
        told = {name for text in FUNCTIONS.values() for name, _ in told_signatures(text)}
        self.assertEqual(names, told)

    def test_arguments_stay_as_they_were(self):
        for function, arguments in functions_with_arguments():
            before = copy.deepcopy(arguments)
            with self.subTest(function=function.__name__, arguments=arguments):
                first = function(*arguments)
                self.assertEqual(arguments, before)
                self.assertEqual(function(*arguments), first)

    def test_returned_lists_are_new(self):
        for function, arguments in functions_with_arguments():
            with self.subTest(function=function.__name__, arguments=arguments):
                first, second = function(*arguments), function(*arguments)
                expected, before = copy.deepcopy(first), copy.deepcopy(arguments)
                own = [id(one) for one in lists_in(first)]
                self.assertEqual(len(own), len(set(own)))
                self.assertEqual([one for one in lists_in(arguments) + lists_in(second) if id(one) in own], [])
                for one in lists_in(first):
                    one.append(None)
                    one.reverse()
                    del one[1:]
                self.assertEqual(second, expected)
                self.assertEqual(arguments, before)
                self.assertEqual(function(*arguments), expected)

    def test_changed_arguments_do_not_change_results(self):
        for function, arguments in functions_with_arguments():
            with self.subTest(function=function.__name__, arguments=arguments):
                before, result = copy.deepcopy(arguments), function(*arguments)
                expected = copy.deepcopy(result)
                for one in lists_in(arguments):
                    one.clear()
                self.assertEqual(result, expected)
                self.assertEqual(function(*before), expected)

    def test_order_of_the_calls_does_not_matter(self):
        calls = functions_with_arguments()
        expected = [function(*arguments) for function, arguments in calls]
        order = list(range(len(calls)))
        random.Random(80).shuffle(order)
        for number in order:
            function, arguments = calls[number]
            self.assertEqual(function(*arguments), expected[number])


class StoryTest(unittest.TestCase):
    """A store and two members, with all that may be asked, over written tables and wishes."""

    RULE = (1000003, 10 ** 17 + 3)

    def setUp(self):
        self.source = random.Random(81)
        self.table = ref.random_table(self.source, 30)
        self.store = Store(self.RULE, 4711, parse_table(format_table(self.table)))
        self.tables = [self.table]
        self.changes = []
        for _ in range(19):
            change = parse_wish(format_wish(ref.random_change(self.source, self.tables[-1])))
            self.store.change(change)
            self.changes.append(change)
            self.tables.append(changed_table(self.tables[-1], change))
        self.line = [self.store.sealed(number)[0] for number in range(20)]

    def test_member_that_follows(self):
        member = Member(self.RULE, self.store.cards(), self.store.sealed(0))
        last = 0
        while last < 19:
            following = min(19, last + self.source.randint(1, 5))
            self.assertIs(member.follow(self.store.sealed(following), self.store.path(last, following)), True)
            for _ in range(5):
                query = ref.random_query(self.source, self.tables[following])
                self.assertEqual(member.read(query, self.store.ask(following, query)),
                                 ("answer", answer(self.tables[following], query)))
            for version, _ in member.taken():
                self.assertEqual(member.changes(version[0], self.store.compare(version[0], following)),
                                 ("answer", changes_between(self.tables[version[0]], self.tables[following])))
            last = following

    def test_batches_lead_from_version_to_version(self):
        for earlier in range(0, 20, 4):
            for later in range(earlier, 20, 5):
                changes = self.changes[earlier:later]
                head, certificate = certified_batch(self.RULE, self.tables[earlier], changes)
                self.assertEqual(head, self.line[later][1])
                self.assertEqual(read_batch(self.RULE, self.line[earlier][1], changes, certificate), ("head", head))

    def test_histories(self):
        for key, _ in self.table[::4]:
            rows, certificates = certified_history(self.RULE, self.tables, key)
            self.assertEqual(rows, [dict(table).get(key) for table in self.tables])
            self.assertEqual(certificates, [self.store.ask(number, ("get", key)) for number in range(20)])
            self.assertEqual(read_history(self.RULE, self.line, key, certificates), ("answer", rows))
            self.assertEqual([index for index, change in enumerate(self.changes, start=1)
                              if change[1] == key and rows[index] != rows[index - 1]], turns(rows))

    def test_copies_of_all_versions(self):
        for number in range(20):
            own = Copy(self.RULE, self.line[number][1], self.source.randint(1, 40))
            while own.wanted() is not None:
                self.assertEqual(own.add(self.store.ask(number, own.wanted()))[0], "answer")
            self.assertIs(own.is_whole(), True)
            self.assertEqual(own.rows(), self.tables[number])

    def test_members_that_meet(self):
        first = Member(self.RULE, self.store.cards(), self.store.sealed(0))
        self.assertIs(first.follow(self.store.sealed(12), self.store.path(0, 12)), True)
        other = Store(self.RULE, 4711, self.table)
        for change in self.changes[:10]:
            other.change(change)
        second = Member(self.RULE, other.cards(), other.sealed(0))
        self.assertIs(second.follow(other.sealed(10), other.path(0, 10)), True)
        self.assertIsNone(first.meet(second.taken()))
        other.change(("put", "wren", (1, 2, 3)))
        other.change(self.changes[11])
        self.assertIs(second.follow(other.sealed(12), other.path(10, 12)), True)
        pair = first.meet(second.taken())
        self.assertEqual(pair, (self.store.sealed(12), other.sealed(12)))
        self.assertIs(is_double(self.RULE, self.store.cards(), *pair), True)
        self.assertIs(first.follow(other.sealed(12), []), False)


if __name__ == "__main__":
    unittest.main()
