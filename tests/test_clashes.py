"""Tests of rightrows.clashes: clashes of certificates (point 24) and of tables (point 25)."""

import random
import unittest

import reference as ref
from rightrows import clashes
from rightrows.clashes import clash, clash_of_tables
from rightrows.reading import certified_differences
from rightrows.tables import changes_between
from rightrows.trees import head_of

# By this rule a digest is the number of integers in the encoding: 9 for the
# empty tree, and 43 for each entry with a key of one sign and a row of one integer.
RULE = (10 ** 9, 10 ** 9)
EMPTY = (9, 0, (0, 0, 0))


def entry(key, number, left=EMPTY, right=EMPTY):
    return (key, (number,), left, right)


def linked(count, total):
    return (43, count, (total, 0, 0))


class ClashTest(ref.KeepingTest):

    HONEST = [entry("c", 3, linked(2, 3)), entry("b", 2, linked(1, 1)), entry("a", 1)]

    def assert_clash(self, given, expected, honest=None, rule=RULE):
        with self.subTest(given=given):
            found = self.kept(clash, rule, honest if honest is not None else self.HONEST, given)
            self.assertEqual(found, expected)
            if expected is not None:
                self.assertIs(type(found), tuple)

    def test_equal_certificates(self):
        self.assert_clash(list(self.HONEST), None)
        self.assert_clash([], None, [])

    def test_one_of_them_is_only_longer(self):
        for number in range(3):
            self.assert_clash(self.HONEST[:number], None)
        for more in (None, True, entry("d", 3), self.HONEST[2]):
            self.assert_clash(self.HONEST + [more], None)
        self.assert_clash([entry("d", 3)], None, [])
        self.assert_clash([], None)

    def test_first_entries_that_differ(self):
        for number, right in enumerate(self.HONEST):
            for other in (entry("d", 9), entry("c", 3), entry("a", 1, EMPTY, linked(5, 5))):
                if other != right:
                    self.assert_clash(self.HONEST[:number] + [other] + self.HONEST[number + 1:], (right, other))
                    self.assert_clash(self.HONEST[:number] + [other], (right, other))
                    self.assert_clash(self.HONEST[:number] + [other, None, entry("e", 1)], (right, other))

    def test_sums_do_not_matter(self):
        other = entry("c", 4, linked(9, 65535))
        self.assert_clash([other], (self.HONEST[0], other))

    def test_other_digest(self):
        for other in (("cc", (3,), EMPTY, EMPTY), ("c", (3, 0), EMPTY, EMPTY), ("c", (3, 0, 0), EMPTY, EMPTY)):
            self.assert_clash([other] + self.HONEST[1:], None)
            self.assert_clash(self.HONEST[:2] + [other], None)

    def test_only_the_first_difference_counts(self):
        self.assert_clash([("cc", (3,), EMPTY, EMPTY), entry("x", 1)], None)
        self.assert_clash([None, entry("x", 1), self.HONEST[2]], None)
        self.assert_clash([entry("x", 1), entry("y", 1)], (self.HONEST[0], entry("x", 1)))

    def test_values_that_are_no_entries(self):
        links = ((43, -1, (0, 0, 0)), (43, 0, (0, 0)), (True, 0, (0, 0, 0)), (9, None, (0, 0, 0)), (9, 0, "000"), None)
        wrong = [None, True, 5, "c", (), ("c", (3,), EMPTY), ("C", (3,), EMPTY, EMPTY), ("", (3,), EMPTY, EMPTY),
                 (5, (3,), EMPTY, EMPTY), ("d", (), EMPTY, EMPTY), ("d", (65536,), EMPTY, EMPTY),
                 ("d", (-1,), EMPTY, EMPTY), ("d", (True,), EMPTY, EMPTY), ("d", 3, EMPTY, EMPTY)]
        wrong.extend([("d", (3,), link, EMPTY) for link in links])
        wrong.extend([("d", (3,), EMPTY, link) for link in links])
        for value in wrong:
            self.assert_clash([value] + self.HONEST[1:], None)
            self.assert_clash(self.HONEST[:2] + [value], None)

    def test_entries_that_are_equal_for_python_do_not_differ(self):
        honest = [entry("a", 1, linked(1, 0)), entry("b", 0)]
        equal = ("a", (True,), (43, True, (False, False, 0)), EMPTY)
        self.assertEqual(equal, honest[0])
        self.assert_clash([equal, honest[1]], None, honest)
        self.assert_clash([equal, entry("x", 5)], (honest[1], entry("x", 5)), honest)

    def test_as_the_document_says(self):
        source = random.Random(14)
        found = {True: 0, False: 0}
        for _ in range(500):
            rule = (source.randint(1, 20), source.randint(2, 7))
            table = ref.random_table(source, source.randint(1, 8), 3)
            honest = ref.query_certificate(rule, table, ref.random_query(source, table))
            given = list(honest)
            for number in range(len(given)):
                if source.random() < 0.3:
                    given[number] = entry(source.choice("abc"), source.randint(0, 3))
            differing = [(one, other) for one, other in zip(honest, given) if one != other]
            expected = differing[0] if differing else None
            if expected and ref.entry_link(rule, expected[0])[0] != ref.entry_link(rule, expected[1])[0]:
                expected = None
            self.assert_clash(given, expected, honest, rule)
            found[expected is None] += 1
        self.assertGreater(min(found.values()), 50)


class ClashOfTablesTest(ref.KeepingTest):

    def assert_clash(self, first, second, expected, rule=RULE):
        with self.subTest(first=first, second=second):
            found = self.kept(clash_of_tables, rule, first, second)
            self.assertEqual(found, expected)
            if expected is not None:
                self.assertIs(type(found), tuple)

    def test_equal_tables(self):
        for table in ([], [("a", (1,))], ref.FRUIT, ref.chain_table(100)):
            self.assert_clash(table, list(table), None)
            self.assert_clash(table, list(table), None, (1, 2))

    def test_empty_tables(self):
        for rule in (RULE, (1, 2), ref.RULE):
            self.assert_clash([], ref.FRUIT, None, rule)
            self.assert_clash(ref.FRUIT, [], None, rule)

    def test_differences_without_a_clash(self):
        self.assert_clash(ref.FRUIT, ref.OTHER, None, ref.RULE)
        # The digests are equal, but not the sums.
        self.assert_clash([("a", (1,))], [("a", (2,))], None)
        self.assert_clash([("a", (1,)), ("b", (2,))], [("a", (1,)), ("b", (3,))], None)

    def test_roots(self):
        self.assert_clash([("a", (1,))], [("b", (1,))], (entry("a", 1), entry("b", 1)))
        self.assert_clash([("b", (1,))], [("a", (1,))], (entry("b", 1), entry("a", 1)))
        first, second = [("a", (1,)), ("b", (2,))], [("a", (2,)), ("b", (1,))]
        self.assert_clash(first, second, (entry("b", 2, linked(1, 1)), entry("b", 1, linked(1, 2))))

    def test_left_and_right_parts(self):
        # wren stands above all: its left has two rows, and so has its right.
        self.assertEqual([ref.rank(key) for key in ("wren", "yam", "zest")], [984981, 825883, 507980])
        low, high = [("a", (1,)), ("b", (2,))], [("yam", (3,)), ("zest", (4,))]
        other_low, other_high = [("a", (2,)), ("b", (1,))], [("yam", (4,)), ("zest", (3,))]
        root = [("wren", (5,))]
        left_clash = (entry("b", 2, linked(1, 1)), entry("b", 1, linked(1, 2)))
        self.assert_clash(low + root + high, other_low + root + high, left_clash)
        self.assert_clash(low + root + high, other_low + root + other_high, left_clash)
        zest = ref.entry_link(RULE, ("zest", (4,), EMPTY, EMPTY)), ref.entry_link(RULE, ("zest", (3,), EMPTY, EMPTY))
        self.assert_clash(low + root + high, low + root + other_high,
                          (("yam", (3,), EMPTY, zest[0]), ("yam", (4,), EMPTY, zest[1])))

    def test_difference_below_equal_entries(self):
        low, other = [("a", (1,)), ("b", (2,))], [("a", (2,)), ("b", (1,))]
        root = [("c", (3,)), ("d", (4,))]
        # Only below d and c do the entries differ.
        self.assert_clash(low + root, other + root, (entry("b", 2, linked(1, 1)), entry("b", 1, linked(1, 2))))

    def test_order_in_which_parts_are_skipped(self):
        # The roots differ in their sums; both sides are skipped, the left one first.
        low, other_low = [("a", (1,)), ("b", (2,))], [("a", (2,)), ("b", (1,))]
        high, other_high = [("yam", (3,))], [("zzz", (3,))]
        root, other_root = [("wren", (5,))], [("wren", (6,))]
        left_clash = (entry("b", 2, linked(1, 1)), entry("b", 1, linked(1, 2)))
        right_clash = (("yam", (3,), EMPTY, EMPTY), ("zzz", (3,), EMPTY, EMPTY))
        self.assert_clash(low + root + high, other_low + other_root + other_high, left_clash)
        self.assert_clash(low + root + high, low + other_root + other_high, right_clash)
        self.assert_clash(low + root + high, low + other_root + high, None)

    def test_part_that_was_made_by_splitting(self):
        # yew is the root of the first tree. The second one is split there, and wad is passed on the way.
        first = [("wax", (1,)), ("yew", (5,))]
        second = [("wad", (1,)), ("zip", (7,))]
        self.assertEqual(ref.top(tuple(first))[0], "yew")
        self.assertEqual(certified_differences(RULE, first, second)[0], changes_between(first, second)[2:])
        expected = ref.Pairing(RULE, first, second)
        expected.differences()
        self.assertEqual(expected.skipped[0], ((("wax", (1,)),), (("wad", (1,)),)))
        self.assert_clash(first, second, (("wax", (1,), EMPTY, EMPTY), ("wad", (1,), EMPTY, EMPTY)))

    def test_many_tables(self):
        source = random.Random(15)
        many = {True: 0, False: 0}
        for _ in range(1500):
            rule = (source.randint(1, 20), source.randint(2, 7))
            first = ref.random_table(source, source.randint(0, 12), source.choice([0, 1, 2]))
            rows = [row for _, row in first]
            source.shuffle(rows)
            keys = [key for key, _ in first]
            if keys and source.random() < 0.7:
                keys = sorted(dict.fromkeys(keys[1:] + [keys[0][:-1] + source.choice(ref.SIGNS)]))
            second = list(zip(keys, rows))
            pairing = ref.Pairing(rule, first, second)
            changes = pairing.differences()
            expected = pairing.clash()
            self.assert_clash(first, second, expected, rule)
            many[expected is None] += 1
            if changes != changes_between(first, second):
                self.assertIsNotNone(expected)
            if expected is not None:
                self.assertNotEqual(*expected)
                self.assertEqual(*[ref.entry_link(rule, one)[0] for one in expected])
        self.assertGreater(min(many.values()), 200)

    def test_deepest_tables(self):
        table = ref.chain_table(100)
        rows = [row for _, row in table]
        swapped = [(key, row) for (key, _), row in zip(table, [rows[1], rows[0]] + rows[2:])]
        self.assertEqual(head_of(RULE, table), head_of(RULE, swapped))
        clashing = ref.entry(RULE, tuple(table[:2])), ref.entry(RULE, tuple(swapped[:2]))
        self.assert_clash(table, swapped, clashing)

    def test_tables_somewhat_beyond_the_limits(self):
        table = ref.chain_table(300)
        self.assert_clash(table, table[:299], None, ref.RULE)
        self.assert_clash(table, list(table), None, RULE)

    def test_defined_in_their_file(self):
        for function in (clash, clash_of_tables):
            self.assertEqual(function.__module__, clashes.__name__)


if __name__ == "__main__":
    unittest.main()
