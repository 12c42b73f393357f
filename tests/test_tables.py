"""Tests of rightrows.tables: tables (points 3 and 4), queries (5), changes (6 and 20) and joins."""

import copy
import unittest

from rightrows import tables
from rightrows.tables import answer, changed_table, changes_between, is_table, joined_rows

DOCUMENT_TABLE = [("a", (1, 2)), ("b", (3,)), ("d", (4, 5))]
FRUIT = [("apple", (5, 1, 9)), ("fig", (7,)), ("lime", (0, 65535)), ("pear", (2, 3, 4)), ("plum", (65535,))]
LETTERS = "abcdefghijklmnopqrstuvwxyz"
BOUNDS = ("", "0", "a", "apple", "applea", "b", "fig", "fig0", "lim", "lime", "p", "pear", "plum", "plum0",
          "zzzzzzzzz")


def table_of(many):
    """A table with so many pairs: ("aa", (0, 1)), ("ab", (1, 1)) and so on."""
    keys = [first + second for first in LETTERS for second in LETTERS]
    return [(keys[number], (number, 1)) for number in range(many)]


class TablesTest(unittest.TestCase):
    """What all tests of this file share."""

    def kept(self, function, *arguments):
        """Call a function, and see that the arguments stay as they were."""
        before = copy.deepcopy(arguments)
        result = function(*arguments)
        self.assertEqual(arguments, before)
        return result

    def assert_answer(self, table, query, expected):
        with self.subTest(query=query):
            given = self.kept(answer, table, query)
            self.assertEqual(given, expected)
            self.assertIs(type(given), type(expected))


class IsTableTest(TablesTest):

    def assert_table(self, table, expected):
        with self.subTest(table=table):
            self.assertIs(self.kept(is_table, table), expected)

    def test_tables(self):
        for table in (DOCUMENT_TABLE, FRUIT, [("a", (1,))]):
            self.assert_table(table, True)

    def test_empty_table(self):
        self.assert_table([], True)

    def test_number_of_pairs(self):
        self.assert_table(table_of(99), True)
        self.assert_table(table_of(100), True)
        self.assert_table(table_of(101), False)
        self.assert_table(table_of(300), False)

    def test_length_of_keys(self):
        for key, expected in (("", False), ("a", True), ("abcdefg", True), ("abcdefgh", True),
                              ("abcdefghi", False), ("a" * 100, False)):
            self.assert_table([(key, (1,))], expected)

    def test_signs_of_keys(self):
        for sign in LETTERS + "0123456789":
            self.assert_table([(sign, (1,))], True)
            self.assert_table([("a" + sign, (1,))], True)

    def test_signs_that_keys_do_not_have(self):
        for sign in LETTERS.upper() + " -_.,:/`{@[\n\t\0'\"\\\u00e9\u00aa\u00b2\u0661\u03b1\u00df":
            for key in (sign, sign + "a", "a" + sign, "a" + sign + "a"):
                self.assert_table([(key, (1,))], False)

    def test_length_of_rows(self):
        for row, expected in (((), False), ((1,), True), ((1, 2), True), ((1, 2, 3), True), ((1, 2, 3, 4), False),
                              ((0,) * 50, False)):
            self.assert_table([("a", row)], expected)

    def test_integers_of_rows(self):
        for number, expected in ((-1, False), (0, True), (1, True), (65534, True), (65535, True), (65536, False),
                                 (10 ** 30, False), (-10 ** 30, False)):
            for row in ((number,), (number, 3), (3, number), (3, 3, number)):
                self.assert_table([("a", row)], expected)

    def test_equal_keys(self):
        self.assert_table([("a", (1,)), ("a", (2,))], False)
        self.assert_table([("a", (1,)), ("a", (1,))], False)
        self.assert_table([("a", (1,)), ("b", (1,)), ("b", (1,)), ("c", (1,))], False)

    def test_keys_out_of_order(self):
        self.assert_table([("b", (1,)), ("a", (1,))], False)
        self.assert_table([("a", (1,)), ("c", (1,)), ("b", (1,))], False)
        self.assert_table([("b", (1,)), ("a", (1,)), ("c", (1,))], False)

    def test_keys_are_compared_as_strings(self):
        self.assert_table([("10", (1,)), ("9", (1,))], True)
        self.assert_table([("9", (1,)), ("10", (1,))], False)
        self.assert_table([("9", (1,)), ("a", (1,))], True)
        self.assert_table([("a", (1,)), ("9", (1,))], False)
        self.assert_table([("a", (1,)), ("a0", (1,)), ("aa", (1,)), ("b", (1,))], True)
        self.assert_table([("aa", (1,)), ("a", (1,))], False)

    def test_one_wrong_pair_among_right_ones(self):
        for place in (0, 1, 50, 98, 99):
            key = table_of(100)[place][0]
            # Each of these keys keeps the ascending order.
            for pair in ((key + "-", (1,)), (key + "A", (1,)), (key + "aaaaaaa", (1,)), (key, ()),
                         (key, (65536,)), (key, (1, -1)), (key, (1, 2, 3, 4))):
                table = table_of(100)
                table[place] = pair
                with self.subTest(pair=pair):
                    self.assertIs(self.kept(is_table, table), False)


class GetTest(TablesTest):

    def test_rows(self):
        for key, row in FRUIT:
            self.assert_answer(FRUIT, ("get", key), row)

    def test_keys_that_the_table_does_not_have(self):
        for key in ("a", "appl", "applf", "apple0", "figs", "0", "zzzzzzzz"):
            self.assert_answer(FRUIT, ("get", key), None)

    def test_empty_table(self):
        self.assert_answer([], ("get", "a"), None)

    def test_row_of_zeros_is_a_row(self):
        self.assert_answer([("a", (0,))], ("get", "a"), (0,))


class RangeTest(TablesTest):

    def test_low_belongs_to_it_and_high_does_not(self):
        self.assert_answer(FRUIT, ("range", "fig", "pear"), FRUIT[1:3])
        self.assert_answer(FRUIT, ("range", "fig0", "pear0"), FRUIT[2:4])
        self.assert_answer(FRUIT, ("range", "fi", "pea"), FRUIT[1:3])

    def test_whole_table(self):
        self.assert_answer(FRUIT, ("range", "", "zzzzzzzzz"), FRUIT)
        self.assert_answer(FRUIT, ("range", "apple", "plum0"), FRUIT)

    def test_empty_bounds(self):
        self.assert_answer(FRUIT, ("range", "", "fig0"), FRUIT[:2])
        self.assert_answer(FRUIT, ("range", "", ""), [])
        self.assert_answer(FRUIT, ("range", "fig", ""), [])

    def test_high_not_greater_than_low(self):
        self.assert_answer(FRUIT, ("range", "pear", "fig"), [])
        self.assert_answer(FRUIT, ("range", "zzzzzzzzz", ""), [])
        self.assert_answer(FRUIT, ("range", "fig", "fig"), [])

    def test_single_rows_and_gaps(self):
        self.assert_answer(FRUIT, ("range", "fig", "fig0"), FRUIT[1:2])
        self.assert_answer(FRUIT, ("range", "fig0", "lime"), [])
        self.assert_answer(FRUIT, ("range", "plum0", "zzzzzzzzz"), [])
        self.assert_answer(FRUIT, ("range", "", "apple"), [])

    def test_bounds_with_nine_signs(self):
        table = [("aaaaaaaa", (1,)), ("aaaaaaab", (2,))]
        self.assert_answer(table, ("range", "aaaaaaaa0", "aaaaaaab0"), table[1:])
        self.assert_answer(table, ("range", "aaaaaaaa", "aaaaaaaa0"), table[:1])

    def test_bounds_are_compared_as_strings(self):
        table = [("10", (1,)), ("2", (2,)), ("9", (3,))]
        self.assert_answer(table, ("range", "1", "3"), table[:2])

    def test_empty_table(self):
        self.assert_answer([], ("range", "", "zzzzzzzzz"), [])


class NextTest(TablesTest):

    def test_pairs_with_greater_keys(self):
        self.assert_answer(FRUIT, ("next", "fig", 2), FRUIT[2:4])
        self.assert_answer(FRUIT, ("next", "fif", 2), FRUIT[1:3])
        self.assert_answer(FRUIT, ("next", "fig0", 1), FRUIT[2:3])

    def test_empty_key(self):
        self.assert_answer(FRUIT, ("next", "", 2), FRUIT[:2])
        self.assert_answer(FRUIT, ("next", "", 100), FRUIT)

    def test_fewer_pairs_than_wanted(self):
        self.assert_answer(FRUIT, ("next", "lime", 3), FRUIT[3:])
        self.assert_answer(FRUIT, ("next", "lime", 100), FRUIT[3:])
        self.assert_answer(FRUIT, ("next", "plum", 1), [])
        self.assert_answer(FRUIT, ("next", "zzzzzzzzz", 5), [])

    def test_count_of_0_and_1(self):
        self.assert_answer(FRUIT, ("next", "", 0), [])
        self.assert_answer(FRUIT, ("next", "fig", 0), [])
        self.assert_answer(FRUIT, ("next", "", 1), FRUIT[:1])

    def test_count_of_100(self):
        table = table_of(100)
        self.assert_answer(table, ("next", "", 100), table)
        self.assert_answer(table, ("next", "", 99), table[:99])
        self.assert_answer(table, ("next", "aa", 100), table[1:])

    def test_count_somewhat_beyond_the_limits(self):
        self.assert_answer(table_of(101), ("next", "", 100), table_of(100))
        self.assert_answer(table_of(101), ("next", "", 101), table_of(101))
        self.assert_answer(FRUIT, ("next", "", -1), [])

    def test_empty_table(self):
        self.assert_answer([], ("next", "", 100), [])


class CountTest(TablesTest):

    def test_counts(self):
        self.assert_answer(FRUIT, ("count", "fig", "pear"), 2)
        self.assert_answer(FRUIT, ("count", "fig", "pear0"), 3)
        self.assert_answer(FRUIT, ("count", "fig0", "lime"), 0)

    def test_empty_bounds_and_high_not_greater_than_low(self):
        self.assert_answer(FRUIT, ("count", "", "zzzzzzzzz"), 5)
        self.assert_answer(FRUIT, ("count", "", ""), 0)
        self.assert_answer(FRUIT, ("count", "apple", ""), 0)
        self.assert_answer(FRUIT, ("count", "pear", "fig"), 0)
        self.assert_answer(FRUIT, ("count", "fig", "fig"), 0)

    def test_empty_and_full_table(self):
        self.assert_answer([], ("count", "", "zzzzzzzzz"), 0)
        self.assert_answer(table_of(100), ("count", "", "zzzzzzzzz"), 100)


class SumTest(TablesTest):

    def test_example_of_the_document(self):
        self.assert_answer(DOCUMENT_TABLE, ("sum", 1, "a", "c"), 2)

    def test_columns(self):
        self.assert_answer(FRUIT, ("sum", 0, "", "zzzzzzzzz"), 5 + 7 + 0 + 2 + 65535)
        self.assert_answer(FRUIT, ("sum", 1, "", "zzzzzzzzz"), 1 + 65535 + 3)
        self.assert_answer(FRUIT, ("sum", 2, "", "zzzzzzzzz"), 9 + 4)

    def test_column_that_a_row_does_not_have(self):
        self.assert_answer(FRUIT, ("sum", 1, "fig", "fig0"), 0)
        self.assert_answer(FRUIT, ("sum", 2, "fig", "pear"), 0)
        self.assert_answer(DOCUMENT_TABLE, ("sum", 2, "", "z"), 0)

    def test_bounds(self):
        self.assert_answer(FRUIT, ("sum", 0, "fig", "pear"), 7)
        self.assert_answer(FRUIT, ("sum", 0, "fig", "pear0"), 9)
        self.assert_answer(FRUIT, ("sum", 0, "", "fig"), 5)
        self.assert_answer(FRUIT, ("sum", 0, "", ""), 0)
        self.assert_answer(FRUIT, ("sum", 0, "pear", "fig"), 0)
        self.assert_answer(FRUIT, ("sum", 0, "fig", "fig"), 0)

    def test_great_sums(self):
        table = [(key, (65535, 65535, 65535)) for key, _ in table_of(100)]
        for column in (0, 1, 2):
            self.assert_answer(table, ("sum", column, "", "zzzzzzzzz"), 6553500)

    def test_empty_table(self):
        self.assert_answer([], ("sum", 0, "", "zzzzzzzzz"), 0)

    def test_column_beyond_the_limits(self):
        self.assert_answer(FRUIT, ("sum", 3, "", "zzzzzzzzz"), 0)
        self.assert_answer(FRUIT, ("sum", -1, "", "zzzzzzzzz"), 0)


class PlaceTest(TablesTest):

    def test_keys_of_the_table(self):
        for place in range(5):
            self.assert_answer(FRUIT, ("place", FRUIT[place][0]), place)

    def test_other_keys(self):
        for key, place in (("", 0), ("0", 0), ("applf", 1), ("fig0", 2), ("lim", 2), ("plum0", 5), ("zzzzzzzzz", 5)):
            self.assert_answer(FRUIT, ("place", key), place)

    def test_empty_and_full_table(self):
        self.assert_answer([], ("place", "a"), 0)
        self.assert_answer([], ("place", ""), 0)
        self.assert_answer(table_of(100), ("place", "zzzzzzzzz"), 100)


class AtTest(TablesTest):

    def test_places_of_the_table(self):
        for place in range(5):
            self.assert_answer(FRUIT, ("at", place), FRUIT[place])

    def test_places_behind_the_last_row(self):
        for place in (5, 6, 100, 99999, 10 ** 30):
            self.assert_answer(FRUIT, ("at", place), None)

    def test_place_below_0(self):
        self.assert_answer(FRUIT, ("at", -1), None)

    def test_empty_and_full_table(self):
        self.assert_answer([], ("at", 0), None)
        self.assert_answer(table_of(100), ("at", 99), table_of(100)[99])
        self.assert_answer(table_of(100), ("at", 100), None)


class AnswerTest(TablesTest):

    def test_queries_agree(self):
        for low in BOUNDS:
            for high in BOUNDS:
                pairs = answer(FRUIT, ("range", low, high))
                with self.subTest(low=low, high=high):
                    self.assertEqual(pairs, [pair for pair in FRUIT if pair[0] >= low and pair[0] < high])
                    self.assertEqual(answer(FRUIT, ("count", low, high)), len(pairs))
                    self.assertEqual(answer(FRUIT, ("sum", 0, low, high)), sum([row[0] for _, row in pairs]))

    def test_returned_lists_are_new(self):
        for query in (("range", "", "zzzzzzzzz"), ("next", "", 100), ("next", "", 0), ("range", "", "")):
            table = list(FRUIT)
            first = answer(table, query)
            expected = list(first)
            first.append(("zzz", (9,)))
            del first[:1]
            with self.subTest(query=query):
                self.assertEqual(table, FRUIT)
                self.assertEqual(answer(table, query), expected)

    def test_tables_somewhat_beyond_the_limits(self):
        table = [("", (1, 2, 3, 4)), ("ABCDEFGHIJ", (70000,)), ("a-long-key-of-many-signs", (10 ** 20,))]
        self.assert_answer(table, ("get", "ABCDEFGHIJ"), (70000,))
        self.assert_answer(table, ("range", "A", "a-long-key-of-many-signs0"), table[1:])
        self.assert_answer(table, ("sum", 0, "", "zzzzzzzzzzzz"), 1 + 70000 + 10 ** 20)
        self.assert_answer(table_of(300), ("count", "", "zzzzzzzzz"), 300)
        self.assert_answer(table_of(300), ("at", 299), table_of(300)[299])


class ChangedTableTest(TablesTest):

    def assert_changed(self, table, change, expected):
        with self.subTest(change=change):
            self.assertEqual(self.kept(changed_table, table, change), expected)

    def test_put_of_a_new_key(self):
        new = ("c", (9, 8))
        self.assert_changed(DOCUMENT_TABLE, ("put", "c", (9, 8)), DOCUMENT_TABLE[:2] + [new] + DOCUMENT_TABLE[2:])
        self.assert_changed(DOCUMENT_TABLE, ("put", "0", (1,)), [("0", (1,))] + DOCUMENT_TABLE)
        self.assert_changed(DOCUMENT_TABLE, ("put", "z", (1,)), DOCUMENT_TABLE + [("z", (1,))])
        self.assert_changed(DOCUMENT_TABLE, ("put", "a0", (1,)), [DOCUMENT_TABLE[0], ("a0", (1,))] + DOCUMENT_TABLE[1:])

    def test_put_of_a_key_that_the_table_has(self):
        self.assert_changed(DOCUMENT_TABLE, ("put", "a", (7,)), [("a", (7,)), ("b", (3,)), ("d", (4, 5))])
        self.assert_changed(DOCUMENT_TABLE, ("put", "b", (7, 7, 7)), [("a", (1, 2)), ("b", (7, 7, 7)), ("d", (4, 5))])
        self.assert_changed(DOCUMENT_TABLE, ("put", "d", (0,)), [("a", (1, 2)), ("b", (3,)), ("d", (0,))])

    def test_put_of_the_same_row(self):
        self.assert_changed(DOCUMENT_TABLE, ("put", "b", (3,)), DOCUMENT_TABLE)

    def test_put_into_the_empty_table(self):
        self.assert_changed([], ("put", "a", (0, 65535)), [("a", (0, 65535))])

    def test_put_beyond_100_pairs(self):
        self.assert_changed(table_of(100), ("put", table_of(101)[100][0], (100, 1)), table_of(101))

    def test_remove(self):
        self.assert_changed(DOCUMENT_TABLE, ("remove", "a"), DOCUMENT_TABLE[1:])
        self.assert_changed(DOCUMENT_TABLE, ("remove", "b"), [DOCUMENT_TABLE[0], DOCUMENT_TABLE[2]])
        self.assert_changed(DOCUMENT_TABLE, ("remove", "d"), DOCUMENT_TABLE[:2])
        self.assert_changed([("a", (1,))], ("remove", "a"), [])

    def test_remove_of_a_key_that_the_table_does_not_have(self):
        for key in ("0", "c", "aa", "z"):
            self.assert_changed(DOCUMENT_TABLE, ("remove", key), DOCUMENT_TABLE)
        self.assert_changed([], ("remove", "a"), [])

    def test_returned_table_is_new(self):
        for change in (("put", "c", (1,)), ("put", "b", (3,)), ("remove", "a"), ("remove", "c")):
            table = list(DOCUMENT_TABLE)
            first = changed_table(table, change)
            expected = list(first)
            first.append(("zzz", (9,)))
            del first[:1]
            with self.subTest(change=change):
                self.assertEqual(table, DOCUMENT_TABLE)
                self.assertEqual(changed_table(table, change), expected)

    def test_changed_tables_are_tables(self):
        table = []
        for key in ("m", "c", "x", "a", "m", "zz", "b0"):
            table = changed_table(table, ("put", key, (len(table),)))
            self.assertIs(is_table(table), True)
        self.assertEqual([key for key, _ in table], ["a", "b0", "c", "m", "x", "zz"])
        self.assertEqual(answer(table, ("get", "m")), (4,))


class ChangesBetweenTest(TablesTest):

    def assert_changes(self, first, second, expected):
        with self.subTest(first=first, second=second):
            self.assertEqual(self.kept(changes_between, first, second), expected)

    def test_all_kinds_of_changes(self):
        second = [("a", (1, 2)), ("b", (4,)), ("c", (6,))]
        self.assert_changes(DOCUMENT_TABLE, second, [("b", (3,), (4,)), ("c", None, (6,)), ("d", (4, 5), None)])
        self.assert_changes(second, DOCUMENT_TABLE, [("b", (4,), (3,)), ("c", (6,), None), ("d", None, (4, 5))])

    def test_equal_tables(self):
        self.assert_changes(FRUIT, list(FRUIT), [])
        self.assert_changes([], [], [])

    def test_empty_tables(self):
        self.assert_changes([], DOCUMENT_TABLE, [(key, None, row) for key, row in DOCUMENT_TABLE])
        self.assert_changes(DOCUMENT_TABLE, [], [(key, row, None) for key, row in DOCUMENT_TABLE])

    def test_tables_without_a_common_key(self):
        first, second = [("a", (1,)), ("c", (3,))], [("b", (2,)), ("d", (4,))]
        self.assert_changes(first, second, [("a", (1,), None), ("b", None, (2,)), ("c", (3,), None), ("d", None, (4,))])

    def test_rows_with_another_length_differ(self):
        self.assert_changes([("a", (3,))], [("a", (3, 0))], [("a", (3,), (3, 0))])

    def test_row_of_zeros_is_not_a_missing_row(self):
        self.assert_changes([("a", (0,))], [], [("a", (0,), None)])
        self.assert_changes([], [("a", (0,))], [("a", None, (0,))])

    def test_ascending_order_of_keys(self):
        self.assert_changes([("10", (1,)), ("9", (1,))], [("2", (1,)), ("a", (1,))],
                            [("10", (1,), None), ("2", None, (1,)), ("9", (1,), None), ("a", None, (1,))])

    def test_full_tables(self):
        first = table_of(100)
        second = [(key, (number + 1, 1)) for key, (number, _) in first]
        self.assert_changes(first, second, [(key, (n, 1), (n + 1, 1)) for key, (n, _) in first])

    def test_changes_lead_from_the_first_to_the_second_table(self):
        for first in (DOCUMENT_TABLE, FRUIT, [], table_of(100)):
            for second in (DOCUMENT_TABLE, FRUIT, [], table_of(30)):
                table = first
                for key, old, new in changes_between(first, second):
                    self.assertEqual(answer(first, ("get", key)), old)
                    table = changed_table(table, ("remove", key) if new is None else ("put", key, new))
                self.assertEqual(table, second)

    def test_returned_list_is_new(self):
        first, second = list(DOCUMENT_TABLE), []
        changes_between(first, second).clear()
        changes_between(second, first).append(3)
        self.assertEqual((first, second), (DOCUMENT_TABLE, []))
        self.assertEqual(changes_between(first, second), [(key, row, None) for key, row in DOCUMENT_TABLE])


class JoinedRowsTest(TablesTest):

    OTHER = [("0", (9,)), ("a", (8, 1)), ("c", (7,)), ("d", (6,))]

    def assert_joined(self, first, second, bounds, expected):
        with self.subTest(bounds=bounds):
            self.assertEqual(self.kept(joined_rows, first, second, *bounds), expected)

    def test_keys_that_both_tables_have(self):
        self.assert_joined(DOCUMENT_TABLE, self.OTHER, ("", "z"), [("a", (1, 2), (8, 1)), ("d", (4, 5), (6,))])
        self.assert_joined(self.OTHER, DOCUMENT_TABLE, ("", "z"), [("a", (8, 1), (1, 2)), ("d", (6,), (4, 5))])

    def test_bounds(self):
        both = [("a", (1, 2), (8, 1)), ("d", (4, 5), (6,))]
        for low, high, expected in (("a", "d", both[:1]), ("a", "d0", both), ("a0", "d", []), ("a0", "e", both[1:]),
                                    ("d", "zzzzzzzzz", both[1:]), ("", "a", []), ("", "b", both[:1])):
            self.assert_joined(DOCUMENT_TABLE, self.OTHER, (low, high), expected)

    def test_empty_high_and_high_not_greater_than_low(self):
        for bounds in (("", ""), ("a", ""), ("d", "a"), ("a", "a"), ("zzzzzzzzz", "")):
            self.assert_joined(DOCUMENT_TABLE, self.OTHER, bounds, [])

    def test_equal_tables(self):
        self.assert_joined(FRUIT, FRUIT, ("", "z"), [(key, row, row) for key, row in FRUIT])

    def test_empty_tables_and_tables_without_a_common_key(self):
        for first, second in (([], FRUIT), (FRUIT, []), ([], []), (FRUIT, DOCUMENT_TABLE)):
            self.assert_joined(first, second, ("", "zzzzzzzzz"), [])

    def test_returned_list_is_new(self):
        first, second = list(DOCUMENT_TABLE), list(self.OTHER)
        joined_rows(first, second, "", "z").clear()
        self.assertEqual((first, second), (DOCUMENT_TABLE, self.OTHER))
        self.assertEqual(len(joined_rows(first, second, "", "z")), 2)


class InterfaceTest(unittest.TestCase):

    def test_defined_in_its_file(self):
        for function in (is_table, answer, changed_table, changes_between, joined_rows):
            with self.subTest(function=function.__name__):
                self.assertEqual(function.__module__, tables.__name__)


if __name__ == "__main__":
    unittest.main()
