"""Tests of rightrows.store: the tables, sealed versions and certificates of a store (point 31)."""

import copy
import random
import unittest

import reference as ref
from rightrows import store as store_file
from rightrows.errors import RightrowsError, TooManyVersions, UnknownVersion
from rightrows.meetings import is_double
from rightrows.reading import read, read_change, read_differences
from rightrows.store import Store
from rightrows.tables import changed_table, changes_between
from rightrows.versions import clash_of_paths, follows

LAST = "zzzzzzzzz"
SECRET = 10 ** 17 + 9
CHANGES = [("put", "fig", (1, 2)), ("remove", "date"), ("put", "wren", (3,)), ("remove", "nothing"),
           ("put", "apple", (5, 1, 9)), ("remove", "plum"), ("put", "date", (4,))]
TABLES = [ref.FRUIT]
for one_change in CHANGES:
    TABLES.append(changed_table(TABLES[-1], one_change))
QUERIES = (("get", "date"), ("range", "b", "m"), ("next", "", 3), ("count", "e", LAST), ("sum", 1, "lime", LAST),
           ("place", "melon"), ("at", 4))
UNKNOWN = (-1, -2, -8, -9, 8, 9, 19, 20, 100, 10 ** 30)


def links(rule, tables):
    return [ref.link(rule, tuple(table)) for table in tables]


def fruit_store(rule=ref.RULE, secret=SECRET, many=len(CHANGES)):
    store = Store(rule, secret, ref.FRUIT)
    for change in CHANGES[:many]:
        store.change(change)
    return store


def told_by(store):
    """Much of what a store tells: nothing is left out of its tables, its versions and its cards."""
    numbers = range(store.latest() + 1)
    return ([store.table(number) for number in numbers], [store.sealed(number) for number in numbers], store.cards(),
            [store.path(0, number) for number in numbers],
            [store.ask(number, ("range", "", LAST)) for number in numbers],
            [store.compare(0, number) for number in numbers])


class StoreCase(ref.KeepingTest):

    def setUp(self):
        self.store = fruit_store()
        self.sealed_line = ref.sealed_line(ref.RULE, SECRET, links(ref.RULE, TABLES))
        self.line = [version for version, _ in self.sealed_line]

    def assert_unknown(self, number, method, *arguments):
        with self.subTest(method=method.__name__, arguments=arguments):
            with self.assertRaises(UnknownVersion) as caught:
                self.kept(method, *arguments)
            self.assertEqual(caught.exception.number, number)
            self.assertIs(type(caught.exception), UnknownVersion)
            self.assertIsInstance(caught.exception, RightrowsError)
            self.assertNotIsInstance(caught.exception, TooManyVersions)


class ChangeTest(StoreCase):

    def test_new_store(self):
        store = self.kept(Store, ref.RULE, SECRET, ref.FRUIT)
        self.assertEqual(store.latest(), 0)
        self.assertEqual(store.table(0), ref.FRUIT)
        self.assertEqual(store.sealed(0), self.sealed_line[0])
        self.assertEqual(store.sealed(0)[0], (0, ref.fruit_links(ref.RULE)["date"], 0))

    def test_empty_table(self):
        store = Store(ref.RULE, 0, [])
        self.assertEqual(store.table(0), [])
        self.assertEqual(store.ask(0, ("get", "a")), [])
        self.assertEqual(store.change(("remove", "a")), [])
        self.assertEqual(store.change(("put", "a", (1,))), [])
        self.assertEqual(store.table(2), [("a", (1,))])
        empty = ref.link(ref.RULE, ())
        self.assertEqual(store.change(("remove", "a")), [("a", (1,), empty, empty)])
        self.assertEqual([store.table(number) for number in range(4)], [[], [], [("a", (1,))], []])

    def test_certificate_is_the_one_for_the_table_before(self):
        for rule in (ref.RULE, (1, 2), (3, 5)):
            store = Store(rule, SECRET, ref.FRUIT)
            for table, following, change in zip(TABLES, TABLES[1:], CHANGES):
                certificate = self.kept(store.change, change)
                self.assertEqual(certificate, ref.change_certificate(rule, table, change))
                self.assertIs(type(certificate), list)
                self.assertEqual(read_change(rule, ref.link(rule, tuple(table)), change, certificate),
                                 ("head", ref.link(rule, tuple(following))))

    def test_each_change_makes_the_next_version(self):
        store = Store(ref.RULE, SECRET, ref.FRUIT)
        for number, change in enumerate(CHANGES, start=1):
            store.change(change)
            self.assertEqual(store.latest(), number)
            self.assertEqual([store.table(one) for one in range(number + 1)], TABLES[:number + 1])
            self.assertEqual([store.sealed(one) for one in range(number + 1)], self.sealed_line[:number + 1])

    def test_change_that_changes_no_row_makes_a_version(self):
        store = Store(ref.RULE, SECRET, ref.FRUIT)
        for number, change in enumerate((("remove", "nothing"), ("put", "fig", (7,)), ("remove", "z")), start=1):
            self.assertEqual(store.change(change), ref.change_certificate(ref.RULE, ref.FRUIT, change))
            self.assertEqual(store.latest(), number)
            self.assertEqual(store.table(number), ref.FRUIT)
            self.assertEqual(store.sealed(number)[0][:2], (number, store.sealed(0)[0][1]))
        self.assertEqual(len({store.sealed(number)[0][2] for number in range(4)}), 4)

    def test_twenty_versions(self):
        store = Store(ref.RULE, SECRET, ref.FRUIT)
        tables = [ref.FRUIT]
        for number in range(1, 20):
            store.change(("put", "n" + str(number), (number,)))
            tables.append(changed_table(tables[-1], ("put", "n" + str(number), (number,))))
        self.assertEqual(store.latest(), 19)
        self.assertEqual(store.table(19), tables[19])
        self.assertEqual(store.sealed(19), ref.sealed_line(ref.RULE, SECRET, links(ref.RULE, tables))[19])
        before = told_by(store)
        for change in (("put", "n20", (20,)), ("put", "n19", (19,)), ("remove", "nothing"), ("remove", "n19")):
            with self.assertRaises(TooManyVersions) as caught:
                store.change(change)
            self.assertIsInstance(caught.exception, RightrowsError)
            self.assertNotIsInstance(caught.exception, UnknownVersion)
            self.assertEqual(store.latest(), 19)
            self.assertEqual(told_by(store), before)
            self.assert_unknown(20, store.table, 20)

    def test_changes_that_raise_nothing_below_twenty_versions(self):
        store = Store(ref.RULE, SECRET, [])
        for number in range(1, 20):
            store.change(("remove", "a"))
            self.assertEqual(store.latest(), number)


class NumbersTest(StoreCase):

    def test_tables(self):
        self.assertEqual(self.store.latest(), 7)
        for number, table in enumerate(TABLES):
            self.assertEqual(self.kept(self.store.table, number), table)
            self.assertIs(type(self.store.table(number)), list)

    def test_sealed_versions(self):
        for rule, secret in ((ref.RULE, SECRET), (ref.RULE, 0), ((1, 2), 5), ((3, 5), 10 ** 30)):
            store = fruit_store(rule, secret)
            expected = ref.sealed_line(rule, secret, links(rule, TABLES))
            for number in range(8):
                sealed = self.kept(store.sealed, number)
                self.assertEqual(sealed, expected[number])
                self.assertEqual([type(part) for part in (sealed,) + sealed], [tuple, tuple, tuple])
                self.assertTrue(ref.fits(rule, ref.card(rule, secret, number), number, *sealed))

    def test_no_two_sealed_versions_are_a_double(self):
        for rule in (ref.RULE, (1, 2), (3, 5)):
            store = fruit_store(rule)
            cards, sealed = store.cards(), [store.sealed(number) for number in range(8)]
            for first in sealed:
                for second in sealed:
                    self.assertIs(is_double(rule, cards, first, second), False)

    def test_cards(self):
        for rule, secret in ((ref.RULE, SECRET), (ref.RULE, 0), ((1, 2), 5), ((10 ** 18, 10 ** 18 - 1), 10 ** 30)):
            for many in (0, 7):
                cards = fruit_store(rule, secret, many).cards()
                self.assertEqual(cards, ref.cards(rule, secret, 20))
                self.assertEqual([type(part) for part in [cards] + cards], [list] + 20 * [tuple])

    def test_paths(self):
        for earlier in range(8):
            for later in range(8):
                path = self.kept(self.store.path, earlier, later)
                self.assertEqual(path, [version for version in self.line if earlier < version[0] < later])
                self.assertIs(type(path), list)
                self.assertIs(follows(ref.RULE, self.line[earlier], self.line[later], path), earlier < later)
        self.assertEqual(self.store.path(0, 7), self.line[1:7])
        self.assertEqual(self.store.path(2, 4), [self.line[3]])
        for earlier, later in ((3, 3), (3, 4), (4, 3), (7, 0), (6, 7), (7, 7), (0, 0)):
            self.assertEqual(self.store.path(earlier, later), [])

    def test_certificates_of_queries(self):
        for rule in (ref.RULE, (3, 5)):
            store = fruit_store(rule)
            for number in (0, 3, 7):
                for query in QUERIES:
                    certificate = self.kept(store.ask, number, query)
                    self.assertEqual(certificate, ref.query_certificate(rule, TABLES[number], query))
                    self.assertIs(type(certificate), list)
                    self.assertEqual(read(rule, store.sealed(number)[0][1], query, certificate)[0], "answer")

    def test_certificates_of_differences(self):
        for rule in (ref.RULE, (3, 5)):
            store = fruit_store(rule)
            for earlier in range(8):
                for later in range(8):
                    certificate = self.kept(store.compare, earlier, later)
                    pairing = ref.Pairing(rule, TABLES[earlier], TABLES[later])
                    pairing.differences()
                    self.assertEqual(certificate, pairing.certificate)
                    self.assertIs(type(certificate), list)
        heads = [sealed[0][1] for sealed in self.sealed_line]
        for earlier, later in ((0, 7), (7, 0), (2, 5), (3, 3)):
            self.assertEqual(read_differences(ref.RULE, heads[earlier], heads[later],
                                              self.store.compare(earlier, later)),
                             ("answer", changes_between(TABLES[earlier], TABLES[later])))

    def test_unknown_numbers(self):
        for number in UNKNOWN:
            self.assert_unknown(number, self.store.table, number)
            self.assert_unknown(number, self.store.sealed, number)
            for query in QUERIES:
                self.assert_unknown(number, self.store.ask, number, query)
            for known in (0, 3, 7):
                for method in (self.store.path, self.store.compare):
                    self.assert_unknown(number, method, number, known)
                    self.assert_unknown(number, method, known, number)

    def test_first_of_two_unknown_numbers(self):
        for earlier in UNKNOWN:
            for later in UNKNOWN:
                self.assert_unknown(earlier, self.store.path, earlier, later)
                self.assert_unknown(earlier, self.store.compare, earlier, later)

    def test_numbers_that_the_next_change_makes_known(self):
        store = Store(ref.RULE, SECRET, ref.FRUIT)
        for number, change in enumerate(CHANGES, start=1):
            self.assert_unknown(number, store.table, number)
            self.assert_unknown(number, store.compare, number - 1, number)
            store.change(change)
            self.assertEqual(store.table(number), TABLES[number])
            self.assertEqual(store.path(number - 1, number), [])


class ListsTest(StoreCase):

    def test_table_that_was_given(self):
        table = copy.deepcopy(ref.FRUIT)
        store = Store(ref.RULE, SECRET, table)
        del table[2]
        table[0] = ("a", (1,))
        self.assertEqual(store.table(0), ref.FRUIT)
        self.assertEqual(store.ask(0, ("get", "fig")), ref.fruit_entries(ref.RULE, "date kiwi fig"))
        table.clear()
        for change in CHANGES:
            store.change(change)
        self.assertEqual(told_by(store), told_by(self.store))

    def test_lists_that_were_returned(self):
        before = told_by(self.store)
        for lists in before:
            for one in lists if isinstance(lists[0], list) else [lists]:
                one.clear()
        for number in range(8):
            self.store.table(number)[:1] = [("a", (9,))]
            self.store.path(0, number).append(None)
        self.store.cards().reverse()
        self.assertEqual(told_by(self.store), told_by(fruit_store()))

    def test_certificates_that_changes_returned(self):
        store = Store(ref.RULE, SECRET, ref.FRUIT)
        for change in CHANGES:
            store.change(change).clear()
            store.table(store.latest()).clear()
        self.assertEqual(told_by(store), told_by(self.store))

    def test_questions_change_nothing(self):
        before = told_by(self.store)
        for number in UNKNOWN:
            for method in (self.store.table, self.store.sealed):
                with self.assertRaises(UnknownVersion):
                    method(number)
        self.assertEqual(told_by(self.store), before)
        self.assertEqual(self.store.latest(), 7)

    def test_two_stores_are_apart(self):
        first, second = Store(ref.RULE, SECRET, ref.FRUIT), Store(ref.RULE, SECRET, ref.FRUIT)
        first.change(("remove", "fig"))
        self.assertEqual((first.latest(), second.latest()), (1, 0))
        self.assertEqual(second.table(0), ref.FRUIT)


class ManyStoresTest(StoreCase):

    def test_as_worked_out(self):
        source = random.Random(32)
        for _ in range(40):
            rule = source.choice([ref.RULE, (1, 2), (3, 5), (10 ** 18, 10 ** 18 - 1)])
            secret = source.randint(0, 10 ** 20)
            tables = [ref.random_table(source, source.randint(0, 12))]
            store = Store(rule, secret, tables[0])
            for _ in range(source.randint(0, 8)):
                change = ref.random_change(source, tables[-1])
                self.assertEqual(store.change(change), ref.change_certificate(rule, tables[-1], change))
                tables.append(changed_table(tables[-1], change))
            sealed = ref.sealed_line(rule, secret, links(rule, tables))
            self.assertEqual(store.latest(), len(tables) - 1)
            self.assertEqual([store.sealed(number) for number in range(len(tables))], sealed)
            number = source.randrange(len(tables))
            query = ref.random_query(source, tables[number])
            self.assertEqual(store.ask(number, query), ref.query_certificate(rule, tables[number], query))
            line = [version for version, _ in sealed]
            self.assertIsNone(clash_of_paths(rule, line[:number + 1], store.path(0, number) + [line[number]]))

    def test_full_table(self):
        table = ref.random_table(random.Random(35), 100)
        store = Store(ref.RULE, SECRET, table)
        self.assertEqual(store.change(("remove", table[50][0])),
                         ref.change_certificate(ref.RULE, table, ("remove", table[50][0])))
        store.change(("put", "zzzzzzzz", (1,)))
        store.change(("put", "zzzzzzzy", (1,)))
        self.assertEqual(len(store.table(3)), 101)

    def test_defined_in_its_file(self):
        self.assertEqual(Store.__module__, store_file.__name__)
        for name in ("change", "latest", "table", "sealed", "cards", "path", "ask", "compare"):
            self.assertIn(name, vars(Store))


if __name__ == "__main__":
    unittest.main()
