"""Tests of the seven queries in rightrows.reading: their walks (points 12 to 16), each made and read."""

import random
import unittest

import reference as ref
from rightrows import reading
from rightrows.reading import answered, read
from rightrows.tables import answer
from rightrows.trees import head_of

LAST = "zzzzzzzzz"


class QueryTest(ref.KeepingTest):

    def assert_walk(self, table, query, expected, certificate, rule=ref.RULE):
        """See that a query has an answer and a right certificate, and that the reader takes it."""
        with self.subTest(query=query):
            given = self.kept(answered, rule, table, query)
            self.assertEqual(given, (expected, certificate))
            self.assertEqual([type(part) for part in (given, given[1])], [tuple, list])
            self.assertIs(type(given[0]), type(expected))
            self.assertEqual(self.kept(read, rule, head_of(rule, table), query, certificate), ("answer", expected))

    def assert_opened(self, query, expected, keys):
        """The same for the tree that was worked out by hand, with the opened keys in one string."""
        self.assert_walk(ref.FRUIT, query, expected, ref.fruit_entries(ref.RULE, keys))

    def assert_as_worked_out(self, rule, table, query):
        self.assert_walk(table, query, answer(table, query), ref.query_certificate(rule, table, query), rule)


class GetTest(QueryTest):

    def test_keys_of_the_table(self):
        self.assert_opened(("get", "date"), (4,), "date")
        self.assert_opened(("get", "apple"), (5, 1, 9), "date apple")
        self.assert_opened(("get", "kiwi"), (1, 2), "date kiwi")
        self.assert_opened(("get", "fig"), (7,), "date kiwi fig")
        self.assert_opened(("get", "pear"), (2, 3, 4), "date kiwi plum lime pear")

    def test_keys_that_the_table_does_not_have(self):
        self.assert_opened(("get", "a"), None, "date apple")
        self.assert_opened(("get", "banana"), None, "date apple")
        self.assert_opened(("get", "hawk"), None, "date kiwi fig")
        self.assert_opened(("get", "melon"), None, "date kiwi plum lime pear")
        self.assert_opened(("get", "zzzzzzzz"), None, "date kiwi plum")


class RangeTest(QueryTest):

    def test_whole_table(self):
        self.assert_opened(("range", "", LAST), ref.FRUIT, "date apple kiwi fig plum lime pear")
        self.assert_opened(("range", "apple", "plum0"), ref.FRUIT, "date apple kiwi fig plum lime pear")

    def test_bounds_that_are_keys(self):
        self.assert_opened(("range", "fig", "pear"), ref.FRUIT[2:5], "date kiwi fig plum lime pear")
        self.assert_opened(("range", "date", "kiwi"), ref.FRUIT[1:3], "date kiwi fig")
        self.assert_opened(("range", "date", "date"), [], "date")
        self.assert_opened(("range", "kiwi", "lime"), ref.FRUIT[3:4], "date kiwi plum lime")

    def test_bounds_between_keys(self):
        self.assert_opened(("range", "e", "f"), [], "date kiwi fig")
        self.assert_opened(("range", "kiwi0", "pearl"), ref.FRUIT[4:6], "date kiwi plum lime pear")
        self.assert_opened(("range", "", "b"), ref.FRUIT[:1], "date apple")
        self.assert_opened(("range", "q", LAST), [], "date kiwi plum")

    def test_high_not_greater_than_low(self):
        self.assert_opened(("range", "", ""), [], "date apple")
        self.assert_opened(("range", "fig", ""), [], "date")
        self.assert_opened(("range", "f", "f"), [], "date kiwi fig")
        self.assert_opened(("range", "pear", "apple"), [], "date")
        self.assert_opened(("range", "b", "apple"), [], "date apple")
        # The left of date is not walked, the right is; at kiwi neither side is.
        self.assert_opened(("range", LAST, "fig"), [], "date kiwi")
        self.assert_opened(("range", "m", "f"), [], "date kiwi")


class NextTest(QueryTest):

    def test_first_pairs_behind_a_key(self):
        self.assert_opened(("next", "", 1), ref.FRUIT[:1], "date apple")
        self.assert_opened(("next", "", 2), ref.FRUIT[:2], "date apple")
        self.assert_opened(("next", "", 3), ref.FRUIT[:3], "date apple kiwi fig")
        self.assert_opened(("next", "apple", 1), ref.FRUIT[1:2], "date apple")
        self.assert_opened(("next", "date", 2), ref.FRUIT[2:4], "date kiwi fig")
        self.assert_opened(("next", "fig", 1), ref.FRUIT[3:4], "date kiwi fig")
        self.assert_opened(("next", "e", 4), ref.FRUIT[2:6], "date kiwi fig plum lime pear")

    def test_fewer_pairs_than_the_count(self):
        self.assert_opened(("next", "", 100), ref.FRUIT, "date apple kiwi fig plum lime pear")
        self.assert_opened(("next", "", 8), ref.FRUIT, "date apple kiwi fig plum lime pear")
        self.assert_opened(("next", "lime", 7), ref.FRUIT[5:], "date kiwi plum lime pear")
        self.assert_opened(("next", "plum", 1), [], "date kiwi plum")
        self.assert_opened(("next", LAST, 100), [], "date kiwi plum")

    def test_exactly_all_pairs(self):
        self.assert_opened(("next", "", 7), ref.FRUIT, "date apple kiwi fig plum lime pear")
        self.assert_opened(("next", "kiwi", 2), ref.FRUIT[4:6], "date kiwi plum lime pear")

    def test_count_of_0(self):
        self.assert_opened(("next", "", 0), [], "")
        self.assert_opened(("next", "fig", 0), [], "")

    def test_count_somewhat_beyond_the_limits(self):
        self.assert_opened(("next", "fig", 200), ref.FRUIT[3:], "date kiwi fig plum lime pear")
        self.assert_opened(("next", "", -1), [], "")


class CountAndSumTest(QueryTest):

    def assert_weighed(self, low, high, count, sums, keys):
        self.assert_opened(("count", low, high), count, keys)
        for column in range(3):
            self.assert_opened(("sum", column, low, high), sums[column], keys)

    def test_whole_table(self):
        # The parts of apple and fig are taken from their links. kiwi and plum have no key above them.
        self.assert_weighed("", LAST, 7, (65554, 65541, 13), "date kiwi plum")

    def test_empty_low(self):
        self.assert_weighed("", "date", 1, (5, 1, 9), "date")
        self.assert_weighed("", "date0", 2, (9, 1, 9), "date kiwi fig")
        self.assert_weighed("", "apple", 0, (0, 0, 0), "date apple")
        self.assert_weighed("", "lime", 4, (17, 3, 9), "date kiwi plum lime")

    def test_low_that_is_a_key_needs_a_key_below(self):
        # Left of date no key stands below: apple is opened although it is in the range.
        self.assert_weighed("apple", "date", 1, (5, 1, 9), "date apple")
        self.assert_weighed("0", "kiwi", 3, (16, 1, 9), "date apple kiwi")

    def test_parts_between_two_keys(self):
        # fig lies between date and kiwi, lime between kiwi and plum, pear between lime and plum.
        self.assert_weighed("date", "kiwi", 2, (11, 0, 0), "date kiwi")
        self.assert_weighed("date", "kiwi0", 3, (12, 2, 0), "date kiwi plum lime")
        self.assert_weighed("kiwi", "plum", 3, (3, 65540, 4), "date kiwi plum")
        self.assert_weighed("lime", "plum", 2, (2, 65538, 4), "date kiwi plum lime")
        self.assert_weighed("kiwi0", "plum", 2, (2, 65538, 4), "date kiwi plum lime")
        self.assert_weighed("date", "plum", 5, (14, 65540, 4), "date kiwi plum")

    def test_bounds_that_cut_a_part(self):
        self.assert_weighed("e", "kiwi", 1, (7, 0, 0), "date kiwi fig")
        self.assert_weighed("date", "kiw", 2, (11, 0, 0), "date kiwi fig")
        self.assert_weighed("pear", "plum", 1, (2, 3, 4), "date kiwi plum lime pear")
        self.assert_weighed("lime", "pear0", 2, (2, 65538, 4), "date kiwi plum lime pear")

    def test_high_that_is_missing_above_the_last_part(self):
        # Nothing stands above the keys right of kiwi, so plum is opened although it is in the range.
        self.assert_weighed("kiwi", LAST, 4, (65538, 65540, 4), "date kiwi plum")
        self.assert_weighed("plum", LAST, 1, (65535, 0, 0), "date kiwi plum")

    def test_high_not_greater_than_low(self):
        self.assert_weighed("", "", 0, (0, 0, 0), "date apple")
        self.assert_weighed("fig", "", 0, (0, 0, 0), "date")
        self.assert_weighed("f", "f", 0, (0, 0, 0), "date kiwi fig")
        self.assert_weighed("plum", "date", 0, (0, 0, 0), "date")
        self.assert_weighed("b", "apple", 0, (0, 0, 0), "date apple")

    def test_table_of_one_row_is_opened(self):
        table = [("a", (1, 2))]
        empty = ref.link(ref.RULE, ())
        self.assert_walk(table, ("count", "", LAST), 1, [("a", (1, 2), empty, empty)])
        self.assert_walk(table, ("sum", 1, "", "a"), 0, [("a", (1, 2), empty, empty)])

    def test_column_somewhat_beyond_the_limits(self):
        self.assert_opened(("sum", 3, "", LAST), 0, "date kiwi plum")


class PlaceTest(QueryTest):

    def test_places_of_keys(self):
        for place, keys in enumerate(("date apple", "date apple", "date kiwi fig", "date kiwi fig",
                                      "date kiwi plum lime", "date kiwi plum lime pear",
                                      "date kiwi plum lime pear")):
            self.assert_opened(("place", ref.FRUIT[place][0]), place, keys)

    def test_places_between_keys(self):
        self.assert_opened(("place", ""), 0, "date apple")
        self.assert_opened(("place", "apple0"), 1, "date apple")
        self.assert_opened(("place", "date0"), 2, "date kiwi fig")
        self.assert_opened(("place", "hawk"), 3, "date kiwi fig")
        self.assert_opened(("place", "melon"), 5, "date kiwi plum lime pear")
        self.assert_opened(("place", "plum0"), 7, "date kiwi plum")
        self.assert_opened(("place", LAST), 7, "date kiwi plum")


class AtTest(QueryTest):

    def test_places_of_the_table(self):
        for place, keys in enumerate(("date apple", "date", "date kiwi fig", "date kiwi", "date kiwi plum lime",
                                      "date kiwi plum lime pear", "date kiwi plum")):
            self.assert_opened(("at", place), ref.FRUIT[place], keys)

    def test_places_at_and_behind_the_last_row(self):
        self.assert_opened(("at", 6), ("plum", (65535,)), "date kiwi plum")
        self.assert_opened(("at", 7), None, "")
        self.assert_opened(("at", 8), None, "")
        self.assert_opened(("at", 99999), None, "")

    def test_place_somewhat_beyond_the_limits(self):
        self.assert_opened(("at", -1), None, "date apple")


class AllQueriesTest(QueryTest):

    QUERIES = [("get", "m"), ("range", "", LAST), ("range", "n", "a"), ("next", "", 0), ("next", "", 1),
               ("next", "", 100), ("count", "", LAST), ("count", "b", "n"), ("sum", 0, "", LAST), ("sum", 2, "b", ""),
               ("place", ""), ("place", "m"), ("place", LAST), ("at", 0), ("at", 1)]

    def test_empty_table(self):
        for query in self.QUERIES:
            self.assert_walk([], query, answer([], query), [])

    def test_table_of_one_row(self):
        empty = ref.link(ref.RULE, ())
        for key in ("a", "m", "z"):
            for query in self.QUERIES:
                opened = [] if query in (("next", "", 0), ("at", 1)) else [(key, (3, 4), empty, empty)]
                table = [(key, (3, 4))]
                self.assert_walk(table, query, answer(table, query), opened)

    def test_equal_ranks(self):
        table = [(key, (number,)) for number, key in enumerate(ref.EQUAL_RANKS)]
        lowest, middle, greatest = [ref.entry(ref.RULE, tuple(table[number:])) for number in range(3)]
        self.assert_walk(table, ("get", "aaxr"), (0,), [lowest])
        self.assert_walk(table, ("get", "eb00"), (1,), [lowest, middle])
        self.assert_walk(table, ("get", "ibjq"), (2,), [lowest, middle, greatest])
        self.assert_walk(table, ("place", "ibjq"), 2, [lowest, middle, greatest])

    def test_many_tables_and_queries(self):
        source = random.Random(4)
        for _ in range(1500):
            rule = source.choice([ref.RULE, (1, 2), (3, 5), (10 ** 18, 10 ** 18 - 1)])
            table = ref.random_table(source, source.randint(0, 15))
            self.assert_as_worked_out(rule, table, ref.random_query(source, table))

    def test_full_tables(self):
        source = random.Random(5)
        table = ref.random_table(source, 100)
        for _ in range(60):
            self.assert_as_worked_out(ref.RULE, table, ref.random_query(source, table))

    def test_deepest_table(self):
        table = ref.chain_table(100)
        for query in (("get", "aa"), ("get", "aa0"), ("range", "", LAST), ("next", "", 1), ("next", "ab", 100),
                      ("count", "ab", "cz"), ("sum", 0, "ab", "cz"), ("place", "aa"), ("at", 0), ("at", 99)):
            self.assert_as_worked_out(ref.RULE, table, query)

    def test_table_somewhat_beyond_the_limits(self):
        table = ref.chain_table(600)
        head = head_of(ref.RULE, table)
        for query in (("get", "aa"), ("range", "", LAST), ("next", "", 600), ("count", "ab", LAST),
                      ("sum", 0, "", "zz"), ("place", "aa"), ("at", 0)):
            expected, certificate = self.kept(answered, ref.RULE, table, query)
            self.assertEqual(expected, answer(table, query))
            self.assertEqual(self.kept(read, ref.RULE, head, query, certificate), ("answer", expected))


class ReturnedListsTest(unittest.TestCase):

    def test_returned_lists_are_new(self):
        for query in (("range", "", LAST), ("next", "", 100)):
            table = list(ref.FRUIT)
            head = head_of(ref.RULE, table)
            expected, certificate = answered(ref.RULE, table, query)
            given = list(certificate)
            read(ref.RULE, head, query, given)[1].clear()
            expected.clear()
            certificate.clear()
            self.assertEqual(table, ref.FRUIT)
            self.assertEqual(given, ref.query_certificate(ref.RULE, table, query))
            self.assertEqual(answered(ref.RULE, table, query), (ref.FRUIT, given))
            self.assertEqual(read(ref.RULE, head, query, given), ("answer", ref.FRUIT))

    def test_defined_in_their_file(self):
        for function in (answered, read):
            self.assertEqual(function.__module__, reading.__name__)


if __name__ == "__main__":
    unittest.main()
