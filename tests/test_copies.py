"""Tests of rightrows.copies: a table that is read by pages (point 36)."""

import copy
import random
import unittest

import reference as ref
from rightrows import copies
from rightrows.clashes import clash
from rightrows.copies import Copy
from rightrows.tables import answer
from rightrows.trees import head_of

# By this rule a digest is the number of integers in the encoding: 9 for the
# empty tree, and 43 for each entry with a key of one sign and a row of one integer.
LENGTH_RULE = (10 ** 9, 10 ** 9)
EMPTY = (9, 0, (0, 0, 0))


def linked(count, total):
    return (43, count, (total, 0, 0))


def page(rule, table, query):
    return ref.query_certificate(rule, table, query)


class CopyCase(ref.KeepingTest):

    def assert_state(self, kept_copy, rows, wanted, is_whole):
        """See what a copy says of itself."""
        self.assertEqual(kept_copy.rows(), rows)
        self.assertIs(type(kept_copy.rows()), list)
        self.assertEqual(kept_copy.wanted(), wanted)
        self.assertIn(type(kept_copy.wanted()), (tuple, type(None)))
        self.assertIs(kept_copy.is_whole(), is_whole)

    def assert_read(self, rule, table, size):
        """See that right certificates lead to the whole table, page by page."""
        with self.subTest(rule=rule, size=size):
            kept_copy = self.kept(Copy, rule, head_of(rule, table), size)
            last_key = ""
            for first in range(0, len(table), size):
                query = ("next", last_key, size)
                self.assert_state(kept_copy, table[:first], query, False)
                pairs = table[first:first + size]
                self.assertEqual(answer(table, query), pairs)
                self.assertEqual(self.kept(kept_copy.add, page(rule, table, query)), ("answer", pairs))
                last_key = pairs[-1][0]
            self.assert_state(kept_copy, table, None, True)
            for certificate in ([], [None], page(rule, table, ("next", last_key, size))):
                self.assertIsNone(self.kept(kept_copy.add, certificate))
                self.assert_state(kept_copy, table, None, True)


class RightPagesTest(CopyCase):

    def test_all_sizes(self):
        for size in (1, 2, 3, 4, 6, 7, 8, 99, 100):
            self.assert_read(ref.RULE, ref.FRUIT, size)

    def test_other_rules(self):
        for rule in ((1, 2), (3, 5), (10 ** 18, 10 ** 18 - 1)):
            for size in (1, 3, 7, 100):
                self.assert_read(rule, ref.FRUIT, size)

    def test_empty_table(self):
        for rule in (ref.RULE, (1, 2)):
            for size in (1, 5, 100):
                self.assert_read(rule, [], size)

    def test_table_of_one_row(self):
        for size in (1, 2, 100):
            self.assert_read(ref.RULE, [("a", (1, 2, 3))], size)

    def test_full_and_deepest_tables(self):
        for table in (ref.random_table(random.Random(62), 100), ref.chain_table(100)):
            for size in (7, 50, 99, 100):
                self.assert_read(ref.RULE, table, size)

    def test_many_tables(self):
        source = random.Random(63)
        for _ in range(60):
            table = ref.random_table(source, source.randint(0, 15))
            self.assert_read(source.choice([ref.RULE, (1, 2), (3, 5)]), table, source.randint(1, 16))

    def test_somewhat_beyond_the_limits(self):
        self.assert_read(ref.RULE, ref.chain_table(150), 120)

    def test_defined_in_its_file(self):
        self.assertEqual(Copy.__module__, copies.__name__)
        for name in ("wanted", "add", "rows", "is_whole"):
            self.assertIn(name, vars(Copy))


class WrongPagesTest(CopyCase):

    def test_page_that_is_refused_changes_nothing(self):
        head = head_of(ref.RULE, ref.FRUIT)
        for size in (1, 2, 7):
            kept_copy = Copy(ref.RULE, head, size)
            while kept_copy.wanted() is not None:
                query, rows = kept_copy.wanted(), kept_copy.rows()
                right = page(ref.RULE, ref.FRUIT, query)
                many = len(right)
                key, row, left, right_link = right[-1]
                wrong = [([], ("refused", "short", 0)), (right[:-1], ("refused", "short", many - 1)),
                         (right + [None], ("refused", "long", many)), ([None] + right, ("refused", "form", 0)),
                         (right[:-1] + [(key, (row[0] ^ 1,) + row[1:], left, right_link)],
                          ("refused", "digest", many - 1))]
                for given, refusal in wrong:
                    self.assertEqual(self.kept(kept_copy.add, given), refusal)
                    self.assert_state(kept_copy, rows, query, False)
                self.assertEqual(kept_copy.add(right)[0], "answer")
                self.assertGreater(len(kept_copy.rows()), len(rows))
            self.assert_state(kept_copy, ref.FRUIT, None, True)

    def test_sums(self):
        kept_copy = Copy(LENGTH_RULE, linked(3, 6), 2)
        self.assertEqual(kept_copy.add([("c", (3,), linked(2, 4), EMPTY)]), ("refused", "sums", 0))
        self.assert_state(kept_copy, [], ("next", "", 2), False)

    def test_page_that_was_added_already(self):
        kept_copy = Copy(ref.RULE, head_of(ref.RULE, ref.FRUIT), 2)
        first = page(ref.RULE, ref.FRUIT, ("next", "", 2))
        self.assertEqual(kept_copy.add(first), ("answer", ref.FRUIT[:2]))
        self.assertEqual(kept_copy.add(first)[0], "refused")
        self.assert_state(kept_copy, ref.FRUIT[:2], ("next", "date", 2), False)

    def test_page_of_another_table(self):
        kept_copy = Copy(ref.RULE, head_of(ref.RULE, ref.FRUIT), 2)
        self.assertEqual(kept_copy.add(page(ref.RULE, ref.OTHER, ("next", "", 2))), ("refused", "digest", 0))
        self.assert_state(kept_copy, [], ("next", "", 2), False)


class ForgedPagesTest(CopyCase):

    def test_other_rows_that_were_taken(self):
        kept_copy = Copy(LENGTH_RULE, linked(3, 6), 3)
        forged = [("c", (1,), linked(2, 5), EMPTY), ("b", (5,), linked(1, 0), EMPTY), ("a", (0,), EMPTY, EMPTY)]
        rows = [("a", (0,)), ("b", (5,)), ("c", (1,))]
        self.assertEqual(head_of(LENGTH_RULE, rows), linked(3, 6))
        self.assertEqual(kept_copy.add(forged), ("answer", rows))
        # Their table has the same head.
        self.assert_state(kept_copy, rows, None, True)

    def test_other_rows_whose_table_has_another_head(self):
        # The second page says that b has the whole sum.
        kept_copy = Copy(LENGTH_RULE, linked(2, 3), 1)
        first = [("b", (1,), linked(1, 2), EMPTY), ("a", (2,), EMPTY, EMPTY)]
        self.assertEqual(kept_copy.add(first), ("answer", [("a", (2,))]))
        second = [("b", (3,), EMPTY, linked(1, 0))]
        self.assertEqual(kept_copy.add(second), ("answer", [("b", (3,))]))
        rows = [("a", (2,)), ("b", (3,))]
        self.assertEqual(head_of(LENGTH_RULE, rows), linked(2, 5))
        self.assert_state(kept_copy, rows, None, False)

    def test_other_rows_whose_table_has_another_digest(self):
        # aa stands above b, so that it is the root of the rows' own tree; count and sums are those of the head.
        kept_copy = Copy(LENGTH_RULE, linked(2, 3), 1)
        forged = [("b", (1,), (44, 1, (2, 0, 0)), EMPTY), ("aa", (2,), EMPTY, EMPTY)]
        self.assertEqual(kept_copy.add(forged), ("answer", [("aa", (2,))]))
        self.assertEqual(kept_copy.add(forged), ("answer", [("b", (1,))]))
        rows = [("aa", (2,)), ("b", (1,))]
        self.assertEqual(head_of(LENGTH_RULE, rows), (44, 2, (3, 0, 0)))
        self.assert_state(kept_copy, rows, None, False)

    def test_keys_out_of_order(self):
        # The last key that was read is that of the last row, also if others were greater.
        kept_copy = Copy(LENGTH_RULE, linked(4, 4), 3)
        forged = [("b", (1,), linked(1, 1), linked(2, 2)), ("z", (1,), EMPTY, EMPTY),
                  ("y", (1,), linked(1, 1), EMPTY), ("a", (1,), EMPTY, EMPTY)]
        self.assertEqual(kept_copy.add(forged), ("answer", [("z", (1,)), ("b", (1,)), ("a", (1,))]))
        self.assertEqual(kept_copy.wanted(), ("next", "a", 3))

    def test_more_rows_than_the_head_counts(self):
        kept_copy = Copy(LENGTH_RULE, linked(3, 6), 2)
        first = [("c", (3,), linked(1, 1), linked(1, 2)), ("b", (1,), EMPTY, EMPTY)]
        rows = [("b", (1,)), ("c", (3,))]
        self.assertEqual(kept_copy.add(first), ("answer", rows))
        self.assert_state(kept_copy, rows, ("next", "c", 2), False)
        second = [("e", (3,), linked(1, 1), linked(1, 2)), ("d", (1,), EMPTY, EMPTY)]
        self.assertEqual(kept_copy.add(second), ("answer", [("d", (1,)), ("e", (3,))]))
        rows = rows + [("d", (1,)), ("e", (3,))]
        self.assert_state(kept_copy, rows, None, False)
        self.assertIsNone(kept_copy.add(second))
        self.assertEqual(kept_copy.rows(), rows)

    def test_page_without_rows(self):
        kept_copy = Copy(LENGTH_RULE, linked(2, 3), 1)
        self.assertEqual(kept_copy.add([("x", (1,), linked(1, 2), EMPTY), ("c", (2,), EMPTY, EMPTY)]),
                         ("answer", [("c", (2,))]))
        empty_page = [("b", (1,), EMPTY, linked(1, 2)), ("a", (2,), EMPTY, EMPTY)]
        for _ in range(3):
            self.assertEqual(kept_copy.add(empty_page), ("answer", []))
            self.assert_state(kept_copy, [("c", (2,))], ("next", "c", 1), False)

    def test_small_moduli(self):
        # Point 23 for each page, and what is_whole says at the end.
        source = random.Random(64)
        many = {True: 0, False: 0}
        for _ in range(300):
            rule = (source.randint(1, 20), source.randint(2, 4))
            table = ref.random_table(source, source.randint(1, 6), source.choice([0, 1, 20]))
            head = head_of(rule, table)
            kept_copy = Copy(rule, head, source.randint(1, 7))
            rows = []
            for _ in range(10):
                query = kept_copy.wanted()
                if query is None:
                    break
                honest = page(rule, table, query)
                try:
                    forger = ref.Forger(rule, source.random(), [key for key, _ in table] + ["bb", "ccc"], honest)
                    told = ref.WordByWord(rule, forger).query(head, query)
                except ref.NoForgery:
                    break
                self.assertEqual(kept_copy.add(forger.certificate), told)
                if told[1] != answer(table, query):
                    self.assertIsNotNone(clash(rule, honest, forger.certificate))
                rows = rows + told[1]
                self.assertEqual(kept_copy.rows(), rows)
            keys = [key for key, _ in rows]
            if keys == sorted(set(keys)):
                expected = len(rows) == len(table) and ref.link(rule, tuple(rows)) == head
                self.assertIs(kept_copy.is_whole(), expected)
                many[expected] += rows != table
        self.assertGreater(many[True], 0)
        self.assertGreater(many[False], 50)


class ListsTest(CopyCase):

    def test_lists_that_were_returned(self):
        kept_copy = Copy(ref.RULE, head_of(ref.RULE, ref.FRUIT), 4)
        first = page(ref.RULE, ref.FRUIT, ("next", "", 4))
        told = kept_copy.add(first)
        told[1].clear()
        kept_copy.rows().clear()
        kept_copy.rows().append(("zzz", (1,)))
        self.assert_state(kept_copy, ref.FRUIT[:4], ("next", "kiwi", 4), False)
        rows = kept_copy.rows()
        before = copy.deepcopy(rows)
        self.assertEqual(kept_copy.add(page(ref.RULE, ref.FRUIT, ("next", "kiwi", 4))), ("answer", ref.FRUIT[4:]))
        self.assertEqual(rows, before)
        kept_copy.rows().pop()
        self.assert_state(kept_copy, ref.FRUIT, None, True)

    def test_certificate_that_was_given(self):
        kept_copy = Copy(ref.RULE, head_of(ref.RULE, ref.FRUIT), 4)
        given = page(ref.RULE, ref.FRUIT, ("next", "", 4))
        kept_copy.add(given)
        given.clear()
        self.assert_state(kept_copy, ref.FRUIT[:4], ("next", "kiwi", 4), False)

    def test_two_copies_are_apart(self):
        head = head_of(ref.RULE, ref.FRUIT)
        first, second = Copy(ref.RULE, head, 4), Copy(ref.RULE, head, 4)
        first.add(page(ref.RULE, ref.FRUIT, ("next", "", 4)))
        self.assert_state(second, [], ("next", "", 4), False)


if __name__ == "__main__":
    unittest.main()
