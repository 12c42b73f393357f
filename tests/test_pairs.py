"""Tests of joins and differences in rightrows.reading: their walks (points 18 and 19), each made and read."""

import random
import unittest

import reference as ref
from rightrows import reading
from rightrows.reading import certified_differences, certified_join, read_differences, read_join
from rightrows.tables import changes_between, joined_rows
from rightrows.trees import head_of

LAST = "zzzzzzzzz"
ALL_FRUIT = "date apple kiwi fig plum lime pear"
ALL_OTHER = "date fig plum lime"


def in_turn(told, rule=ref.RULE):
    """The entries of keys such as "F:date O:date" of the two trees that were worked out by hand."""
    entries = {"F": ref.fruit_entries, "O": ref.other_entries}
    return [entries[word[0]](rule, word[2:])[0] for word in told.split()]


class JoinTest(ref.KeepingTest):

    def assert_join(self, first, second, bounds, rows, certificate, rule=ref.RULE):
        with self.subTest(bounds=bounds):
            given = self.kept(certified_join, rule, first, second, *bounds)
            self.assertEqual(given, (rows, certificate))
            self.assertEqual([type(part) for part in (given, given[0], given[1])], [tuple, list, list])
            heads = head_of(rule, first), head_of(rule, second)
            self.assertEqual(self.kept(read_join, rule, *heads, bounds, certificate), ("answer", rows))

    def assert_as_worked_out(self, rule, first, second, bounds):
        pairing = ref.Pairing(rule, first, second)
        rows = pairing.join(*bounds)
        self.assertEqual(rows, joined_rows(first, second, *bounds))
        self.assert_join(first, second, bounds, rows, pairing.certificate, rule)

    def test_whole_tables(self):
        rows = [("date", (4,), (8,)), ("fig", (7,), (7,)), ("lime", (0, 65535), (1,)), ("plum", (65535,), (3,))]
        # The second tree without date is split at kiwi; what is greater is then split at plum, of which nothing
        # is opened again. apple and pear meet empty parts.
        self.assert_join(ref.FRUIT, ref.OTHER, ("", LAST), rows, in_turn(
            "F:date O:date F:kiwi O:fig O:plum O:lime F:fig F:plum F:lime"))

    def test_order_of_the_tables(self):
        rows = [("date", (8,), (4,)), ("fig", (7,), (7,)), ("lime", (1,), (0, 65535)), ("plum", (3,), (65535,))]
        self.assert_join(ref.OTHER, ref.FRUIT, ("", LAST), rows, in_turn(
            "O:date F:date O:fig F:kiwi F:fig O:plum F:plum O:lime F:lime"))

    def test_bounds(self):
        self.assert_join(ref.FRUIT, ref.OTHER, ("", "date"), [], in_turn("F:date O:date"))
        self.assert_join(ref.FRUIT, ref.OTHER, ("apple", "date0"), [("date", (4,), (8,))], in_turn(
            "F:date O:date F:kiwi O:fig O:plum O:lime F:fig"))
        self.assert_join(ref.FRUIT, ref.OTHER, ("fig", "lime"), [("fig", (7,), (7,))], in_turn(
            "F:date O:date F:kiwi O:fig O:plum O:lime F:fig F:plum F:lime"))
        self.assert_join(ref.FRUIT, ref.OTHER, ("kiwi", "plum"), [("lime", (0, 65535), (1,))], in_turn(
            "F:date O:date F:kiwi O:fig O:plum O:lime F:plum F:lime"))
        self.assert_join(ref.FRUIT, ref.OTHER, ("plum", LAST), [("plum", (65535,), (3,))], in_turn(
            "F:date O:date F:kiwi O:fig O:plum O:lime F:plum"))

    def test_empty_bounds_and_high_not_greater_than_low(self):
        self.assert_join(ref.FRUIT, ref.OTHER, ("", ""), [], in_turn("F:date O:date"))
        self.assert_join(ref.FRUIT, ref.OTHER, ("fig", ""), [], in_turn("F:date O:date"))
        self.assert_join(ref.FRUIT, ref.OTHER, ("fig", "fig"), [], in_turn(
            "F:date O:date F:kiwi O:fig O:plum O:lime F:fig"))
        self.assert_join(ref.FRUIT, ref.OTHER, (LAST, "fig"), [], in_turn("F:date O:date F:kiwi O:fig O:plum O:lime"))

    def test_empty_tables(self):
        for first, second in (([], ref.FRUIT), (ref.FRUIT, []), ([], [])):
            self.assert_join(first, second, ("", LAST), [], [])

    def test_equal_tables(self):
        rows = [(key, row, row) for key, row in ref.FRUIT]
        both = [entry for entry in ref.fruit_entries(ref.RULE, ALL_FRUIT) for _ in range(2)]
        self.assert_join(ref.FRUIT, ref.FRUIT, ("", LAST), rows, both)

    def test_tables_of_one_row(self):
        empty = ref.link(ref.RULE, ())
        for first, second in (("a", "a"), ("a", "b"), ("b", "a")):
            rows = [("a", (1,), (2,))] if first == second else []
            self.assert_join([(first, (1,))], [(second, (2,))], ("", LAST), rows,
                             [(first, (1,), empty, empty), (second, (2,), empty, empty)])

    def test_tables_that_share_parts(self):
        changed = [pair for pair in ref.FRUIT if pair[0] != "apple"]
        self.assert_as_worked_out(ref.RULE, ref.FRUIT, changed, ("", LAST))
        self.assert_as_worked_out(ref.RULE, changed, ref.FRUIT, ("e", "m"))

    def test_many_tables(self):
        source = random.Random(8)
        for _ in range(800):
            rule = source.choice([ref.RULE, (1, 2), (3, 5), (10 ** 18, 10 ** 18 - 1)])
            first = ref.random_table(source, source.randint(0, 12))
            second = ref.nearby_table(source, first) if source.random() < 0.5 else ref.random_table(
                source, source.randint(0, 12))
            bounds = (ref.random_bound(source, first), ref.random_bound(source, second))
            self.assert_as_worked_out(rule, first, second, bounds)

    def test_full_and_deepest_tables(self):
        source = random.Random(9)
        full, chain = ref.random_table(source, 100), ref.chain_table(100)
        for first, second in ((full, chain), (chain, full), (chain, chain), (full, full)):
            self.assert_as_worked_out(ref.RULE, first, second, ("", LAST))
            self.assert_as_worked_out(ref.RULE, first, second, ("ac", "bq"))

    def test_tables_somewhat_beyond_the_limits(self):
        first, second = ref.chain_table(300), ref.chain_table(310)
        rows, certificate = certified_join(ref.RULE, first, second, "", LAST)
        self.assertEqual(rows, joined_rows(first, second, "", LAST))
        self.assertEqual(read_join(ref.RULE, head_of(ref.RULE, first), head_of(ref.RULE, second), ("", LAST),
                                   certificate), ("answer", rows))

    def test_returned_lists_are_new(self):
        expected = certified_join(ref.RULE, ref.FRUIT, ref.OTHER, "", LAST)
        heads = head_of(ref.RULE, ref.FRUIT), head_of(ref.RULE, ref.OTHER)
        rows, certificate = certified_join(ref.RULE, ref.FRUIT, ref.OTHER, "", LAST)
        read_join(ref.RULE, *heads, ("", LAST), certificate)[1].clear()
        self.assertEqual((rows, certificate), expected)
        rows.clear()
        certificate.clear()
        self.assertEqual(certified_join(ref.RULE, ref.FRUIT, ref.OTHER, "", LAST), expected)


class DifferencesTest(ref.KeepingTest):

    def assert_differences(self, first, second, changes, certificate, rule=ref.RULE):
        given = self.kept(certified_differences, rule, first, second)
        self.assertEqual(given, (changes, certificate))
        self.assertEqual([type(part) for part in (given, given[0], given[1])], [tuple, list, list])
        heads = head_of(rule, first), head_of(rule, second)
        self.assertEqual(self.kept(read_differences, rule, *heads, certificate), ("answer", changes))

    def assert_as_worked_out(self, rule, first, second):
        pairing = ref.Pairing(rule, first, second)
        changes = pairing.differences()
        if pairing.clash() is None:
            self.assertEqual(changes, changes_between(first, second))
        self.assert_differences(first, second, changes, pairing.certificate, rule)

    def test_tables_with_several_changes(self):
        # fig has the same link in both trees (in the second one as a part that was made), so it is skipped.
        self.assert_differences(ref.FRUIT, ref.OTHER, [
            ("apple", (5, 1, 9), None), ("date", (4,), (8,)), ("kiwi", (1, 2), None), ("lime", (0, 65535), (1,)),
            ("pear", (2, 3, 4), None), ("plum", (65535,), (3,))], in_turn(
            "F:date O:date F:apple F:kiwi O:fig O:plum O:lime F:plum F:lime F:pear"))

    def test_order_of_the_tables(self):
        self.assert_differences(ref.OTHER, ref.FRUIT, [
            ("apple", None, (5, 1, 9)), ("date", (8,), (4,)), ("kiwi", None, (1, 2)), ("lime", (1,), (0, 65535)),
            ("pear", None, (2, 3, 4)), ("plum", (3,), (65535,))], in_turn(
            "O:date F:date F:apple O:fig F:kiwi F:fig O:plum F:plum O:lime F:lime F:pear"))

    def test_empty_tables(self):
        self.assert_differences([], [], [], [])
        self.assert_differences([], ref.FRUIT, [(key, None, row) for key, row in ref.FRUIT],
                                ref.fruit_entries(ref.RULE, ALL_FRUIT))
        self.assert_differences(ref.FRUIT, [], [(key, row, None) for key, row in ref.FRUIT],
                                ref.fruit_entries(ref.RULE, ALL_FRUIT))
        self.assert_differences([], ref.OTHER, [(key, None, row) for key, row in ref.OTHER],
                                ref.other_entries(ref.RULE, ALL_OTHER))

    def test_equal_tables(self):
        for table in (ref.FRUIT, ref.OTHER, ref.chain_table(100), [("a", (1,))]):
            self.assert_differences(table, list(table), [], [])

    def test_tables_of_one_row(self):
        empty = ref.link(ref.RULE, ())
        first, second = ("a", (1,), empty, empty), ("a", (2,), empty, empty)
        self.assert_differences([("a", (1,))], [("a", (2,))], [("a", (1,), (2,))], [first, second])
        other = ("b", (1,), empty, empty)
        self.assert_differences([("a", (1,))], [("b", (1,))], [("a", (1,), None), ("b", None, (1,))], [first, other])
        self.assert_differences([("b", (1,))], [("a", (1,))], [("a", None, (1,)), ("b", (1,), None)], [other, first])

    def test_rows_with_another_length_differ(self):
        changes, _ = certified_differences(ref.RULE, [("a", (3,))], [("a", (3, 0))])
        self.assertEqual(changes, [("a", (3,), (3, 0))])

    def test_tables_that_share_parts(self):
        # The parts of apple and plum are equal; only what is on the way to fig is opened.
        changed = [(key, (9,) if key == "fig" else row) for key, row in ref.FRUIT]
        tops = {ref.top(part)[0]: ref.entry(ref.RULE, part) for part, _ in ref.parts(tuple(changed))}
        certificate = []
        for key in ("date", "kiwi", "fig"):
            certificate.extend(ref.fruit_entries(ref.RULE, key) + [tops[key]])
        self.assert_differences(ref.FRUIT, changed, [("fig", (7,), (9,))], certificate)

    def test_many_tables(self):
        source = random.Random(10)
        for _ in range(1000):
            rule = source.choice([ref.RULE, (1, 2), (3, 5), (10 ** 18, 10 ** 18 - 1)])
            first = ref.random_table(source, source.randint(0, 12))
            second = ref.nearby_table(source, first) if source.random() < 0.7 else ref.random_table(
                source, source.randint(0, 12))
            self.assert_as_worked_out(rule, first, second)

    def test_full_and_deepest_tables(self):
        source = random.Random(11)
        full, chain = ref.random_table(source, 100), ref.chain_table(100)
        for first, second in ((full, chain), (chain, full), (chain, ref.nearby_table(source, chain)),
                              (full, ref.nearby_table(source, full))):
            self.assert_as_worked_out(ref.RULE, first, second)

    def test_tables_somewhat_beyond_the_limits(self):
        first = ref.chain_table(300)
        second = [(key, (number, 2)) for key, (number, _) in ref.chain_table(310)]
        for one, other in ((first, second), (second, first), (first, []), ([], first)):
            changes, certificate = certified_differences(ref.RULE, one, other)
            self.assertEqual(changes, changes_between(one, other))
            self.assertEqual(read_differences(ref.RULE, head_of(ref.RULE, one), head_of(ref.RULE, other), certificate),
                             ("answer", changes))

    def test_returned_lists_are_new(self):
        expected = certified_differences(ref.RULE, ref.FRUIT, ref.OTHER)
        heads = head_of(ref.RULE, ref.FRUIT), head_of(ref.RULE, ref.OTHER)
        changes, certificate = certified_differences(ref.RULE, ref.FRUIT, ref.OTHER)
        read_differences(ref.RULE, *heads, certificate)[1].clear()
        self.assertEqual((changes, certificate), expected)
        changes.clear()
        certificate.clear()
        self.assertEqual(certified_differences(ref.RULE, ref.FRUIT, ref.OTHER), expected)

    def test_defined_in_their_file(self):
        for function in (certified_join, read_join, certified_differences, read_differences):
            self.assertEqual(function.__module__, reading.__name__)


if __name__ == "__main__":
    unittest.main()
