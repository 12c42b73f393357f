"""Tests of rightrows.trees: ranks (point 7), trees and links (points 8 and 9) and heads (point 10)."""

import copy
import random
import unittest

import reference as ref
from rightrows import trees
from rightrows.texts import digest
from rightrows.trees import head_of, rank, stands_above, tree_of

# With the base 1 a digest is 1, plus each integer plus 1, plus how many there are.
ADDING_RULE = (1, 1000000000)
EMPTY = (587, 0, (0, 0, 0))
RANKS = {"apple": 745742, "date": 981600, "fig": 500866, "kiwi": 855874, "lime": 102642, "pear": 24776,
         "plum": 147518}


def shape(part):
    """The keys of a part, as nested tuples of the left shape, the key and the right shape."""
    if part.is_empty():
        return None
    key, _, left, right = part.root
    return (shape(left), key, shape(right))


class RankTest(unittest.TestCase):

    def test_steps_told_one_after_the_other(self):
        self.assertEqual(rank("a"), 7 * 131 + 97)
        self.assertEqual(rank("z"), 7 * 131 + 122)
        self.assertEqual(rank("0"), 7 * 131 + 48)
        self.assertEqual(rank("ab"), (7 * 131 + 97) * 131 + 98)
        # 7, then 1019, then 133594; times 131 and 103 is 17500917, less 17 times 1000003.
        self.assertEqual(rank("fig"), 500866)

    def test_known_ranks(self):
        for key, expected in RANKS.items():
            with self.subTest(key=key):
                self.assertEqual(rank(key), expected)

    def test_keys_of_all_lengths(self):
        source = random.Random(1)
        for _ in range(500):
            key = "".join(source.choice(ref.SIGNS) for _ in range(source.randint(1, 8)))
            with self.subTest(key=key):
                self.assertEqual(rank(key), ref.rank(key))
                self.assertIn(rank(key), range(1000003))

    def test_order_of_the_characters_counts(self):
        self.assertNotEqual(rank("ab"), rank("ba"))

    def test_somewhat_beyond_the_limits(self):
        self.assertEqual(rank(""), 7)
        self.assertEqual(rank("abcdefghij"), ref.rank("abcdefghij"))


class StandsAboveTest(unittest.TestCase):

    def test_greater_rank(self):
        self.assertIs(stands_above("date", "kiwi"), True)
        self.assertIs(stands_above("kiwi", "date"), False)
        self.assertIs(stands_above("b", "a"), True)
        self.assertIs(stands_above("a", "b"), False)

    def test_equal_ranks(self):
        lowest, middle, greatest = ref.EQUAL_RANKS
        self.assertEqual(rank(lowest), rank(middle))
        self.assertEqual(rank(lowest), rank(greatest))
        for first, second in ((lowest, middle), (middle, greatest), (lowest, greatest)):
            self.assertIs(stands_above(first, second), True)
            self.assertIs(stands_above(second, first), False)

    def test_a_key_does_not_stand_above_itself(self):
        self.assertIs(stands_above("date", "date"), False)


class TreeTest(unittest.TestCase):

    def test_empty_tree(self):
        self.assertIsNone(shape(tree_of(ref.RULE, [])))

    def test_tree_worked_out_by_hand(self):
        lime = (None, "lime", (None, "pear", None))
        kiwi = ((None, "fig", None), "kiwi", (lime, "plum", None))
        self.assertEqual(shape(tree_of(ref.RULE, ref.FRUIT)), ((None, "apple", None), "date", kiwi))

    def test_equal_ranks(self):
        table = [(key, (1,)) for key in ref.EQUAL_RANKS]
        self.assertEqual(shape(tree_of(ref.RULE, table)),
                         (None, "aaxr", (None, "eb00", (None, "ibjq", None))))
        self.assertEqual(shape(tree_of(ref.RULE, table[1:])), (None, "eb00", (None, "ibjq", None)))

    def test_ascending_ranks(self):
        expected = None
        for key in ("aa", "ab", "ac", "ad"):
            expected = (expected, key, None)
        self.assertEqual(shape(tree_of(ref.RULE, ref.chain_table(4))), expected)


class HeadTest(unittest.TestCase):

    def kept_head(self, rule, table):
        before = copy.deepcopy(table)
        head = head_of(rule, table)
        self.assertEqual(table, before)
        return head

    def test_example_of_the_document(self):
        self.assertEqual(self.kept_head((1, 1000000000), []), (587, 0, (0, 0, 0)))

    def test_empty_table(self):
        for rule in ((1, 2), (10, 7), ref.RULE, (10 ** 18, 10 ** 18)):
            self.assertEqual(self.kept_head(rule, []), (digest(rule, ("empty",)), 0, (0, 0, 0)))

    def test_table_of_one_row(self):
        # The 45 integers of the encoding are 1734 together.
        self.assertEqual(self.kept_head(ADDING_RULE, [("a", (1, 2))]), (1 + 1734 + 45 + 45, 1, (1, 2, 0)))

    def test_table_of_two_rows(self):
        # b stands above a, so its left link is (1825, 1, (1, 2, 0)), whose encoding is 1839
        # together. The 43 integers of the whole encoding are 2978 together.
        self.assertEqual(self.kept_head(ADDING_RULE, [("a", (1, 2)), ("b", (5,))]),
                         (1 + 2978 + 43 + 43, 2, (6, 2, 0)))

    def test_tree_worked_out_by_hand(self):
        for rule in (ref.RULE, (1, 2), (10 ** 18, 10 ** 18 - 1)):
            self.assertEqual(self.kept_head(rule, ref.FRUIT), ref.fruit_links(rule)["date"])

    def test_columns_that_a_row_does_not_have_are_0_in_the_sums(self):
        table = [("a", (1,)), ("b", (2, 3)), ("c", (4, 5, 6))]
        self.assertEqual(self.kept_head(ref.RULE, table)[1:], (3, (7, 8, 6)))

    def test_a_missing_column_is_another_row_than_a_zero(self):
        self.assertNotEqual(self.kept_head(ref.RULE, [("a", (3,))]), self.kept_head(ref.RULE, [("a", (3, 0))]))

    def test_heads_of_different_tables_differ(self):
        heads = {self.kept_head(ref.RULE, ref.FRUIT)}
        for number, (key, row) in enumerate(ref.FRUIT):
            heads.add(self.kept_head(ref.RULE, ref.FRUIT[:number] + ref.FRUIT[number + 1:]))
            heads.add(self.kept_head(ref.RULE, ref.FRUIT[:number] + [(key, row[::-1] + (1,))[:2]]
                                     + ref.FRUIT[number + 1:]))
            heads.add(self.kept_head(ref.RULE, ref.FRUIT[:number] + [(key + "0", row)] + ref.FRUIT[number + 1:]))
        self.assertEqual(len(heads), 22)

    def test_many_tables(self):
        source = random.Random(2)
        for _ in range(150):
            rule = (source.randint(1, 10 ** source.randint(1, 18)), source.randint(2, 10 ** source.randint(1, 18)))
            table = ref.random_table(source, source.randint(0, 20))
            with self.subTest(rule=rule, table=table):
                self.assertEqual(self.kept_head(rule, table), ref.link(rule, tuple(table)))

    def test_full_table(self):
        table = ref.random_table(random.Random(3), 100)
        head = self.kept_head(ref.RULE, table)
        self.assertEqual(head, ref.link(ref.RULE, tuple(table)))
        self.assertEqual(head[1], 100)

    def test_deepest_table(self):
        table = ref.chain_table(100)
        self.assertEqual(self.kept_head(ref.RULE, table), ref.link(ref.RULE, tuple(table)))

    def test_somewhat_beyond_the_limits(self):
        self.assertEqual(self.kept_head(ref.RULE, ref.chain_table(600))[1:], (600, (179700, 600, 0)))
        self.assertEqual(self.kept_head(ref.RULE, [("abcdefghij", (70000, 1, 1, 1))])[1:], (1, (70000, 1, 1)))
        self.assertEqual(self.kept_head((0, 1), [("a", (1,))]), (0, 1, (1, 0, 0)))


class InterfaceTest(unittest.TestCase):

    def test_defined_in_its_file(self):
        for function in (rank, head_of):
            self.assertEqual(function.__module__, trees.__name__)


if __name__ == "__main__":
    unittest.main()
