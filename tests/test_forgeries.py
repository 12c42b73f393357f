"""Tests of certificates that are taken although they are not the right ones (points 21 and 23 to 25).

With a small modulus many entries have the same digest. A reader then goes on
with what the taken entries say.
"""

import random
import unittest

import reference as ref
from rightrows.clashes import clash, clash_of_tables
from rightrows.reading import (answered, certified_change, certified_differences, certified_join, read, read_change,
                               read_differences, read_join)
from rightrows.tables import changes_between
from rightrows.trees import head_of

LAST = "zzzzzzzzz"
# By this rule a digest is the number of integers in the encoding: 9 for the
# empty tree, and 43 for each entry with a key of one sign and a row of one integer.
RULE = (10 ** 9, 10 ** 9)
EMPTY = (9, 0, (0, 0, 0))
# The sums of an empty part should be 0. These stand in taken entries all the same.
ODD = (5, 0, (4, 0, 0))


def linked(count, total):
    return (43, count, (total, 0, 0))


class ForgedQueriesTest(unittest.TestCase):

    def assert_answer(self, table, query, certificate, expected):
        with self.subTest(query=query):
            self.assertEqual(read(RULE, head_of(RULE, table), query, certificate), ("answer", expected))
            honest = answered(RULE, table, query)
            if honest[0] != expected:
                found = clash(RULE, honest[1], certificate)
                self.assertEqual(found, next((one, other) for one, other in zip(honest[1], certificate)
                                             if one != other))

    def test_heads(self):
        self.assertEqual(head_of(RULE, []), EMPTY)
        self.assertEqual(head_of(RULE, [("c", (6,))]), linked(1, 6))
        self.assertEqual(head_of(RULE, [("a", (1,)), ("b", (2,)), ("c", (3,))]), linked(3, 6))

    def test_get(self):
        table = [("c", (6,))]
        self.assert_answer(table, ("get", "b"), [("b", (6,), EMPTY, EMPTY)], (6,))
        self.assert_answer(table, ("get", "c"), [("b", (6,), EMPTY, EMPTY)], None)
        self.assert_answer(table, ("get", "c"), [("c", (2,), ODD, EMPTY)], (2,))
        table = [("a", (1,)), ("b", (2,)), ("c", (3,))]
        forged = [("b", (0,), linked(1, 5), linked(1, 1)), ("f", (1,), EMPTY, EMPTY)]
        self.assert_answer(table, ("get", "f"), forged, (1,))
        self.assert_answer(table, ("get", "c"), forged, None)

    def test_empty_part_with_odd_sums_is_not_opened(self):
        table = [("c", (6,))]
        for certificate in ([("c", (2,), ODD, EMPTY)], [("c", (2,), EMPTY, ODD)]):
            self.assert_answer(table, ("get", "b"), certificate, None)
            self.assert_answer(table, ("get", "d"), certificate, None)
            self.assert_answer(table, ("range", "", LAST), certificate, [("c", (2,))])
            self.assert_answer(table, ("next", "", 100), certificate, [("c", (2,))])
            self.assert_answer(table, ("place", "d"), certificate, 1)
            self.assert_answer(table, ("at", 0), certificate, ("c", (2,)))

    def test_empty_part_with_odd_sums_counts_nothing(self):
        table = [("c", (6,))]
        for certificate in ([("c", (2,), ODD, EMPTY)], [("c", (2,), EMPTY, ODD)]):
            self.assert_answer(table, ("sum", 0, "", LAST), certificate, 2)
            self.assert_answer(table, ("sum", 0, "", "c"), certificate, 0)
            self.assert_answer(table, ("count", "", LAST), certificate, 1)
        # The part between a and c lies in the range, but it is empty.
        table = [("a", (1,)), ("c", (6,))]
        forged = [("c", (1,), linked(1, 6), EMPTY), ("a", (2,), EMPTY, ODD)]
        self.assert_answer(table, ("sum", 0, "a", "c"), forged, 2)
        self.assert_answer(table, ("count", "a", "c"), forged, 1)

    def test_part_that_is_taken_from_its_link(self):
        table = [("b", (1,)), ("c", (6,))]
        self.assert_answer(table, ("sum", 0, "", "c"), [("c", (2,), (0, 1, (5, 0, 0)), EMPTY)], 5)
        self.assert_answer(table, ("count", "", "c"), [("c", (2,), (0, 1, (5, 0, 0)), EMPTY)], 1)
        self.assert_answer(table, ("count", "", "c"), [("c", (2,), EMPTY, linked(1, 5))], 0)

    def test_bounds_are_those_of_the_last_turns(self):
        table = [(key, (1,)) for key in "abcd"]
        # The walk to the last part goes to the right at n, then at b, then to the left at p. The key above which
        # it lies is b, which is lower than m, so it is opened.
        forged = [("n", (1,), EMPTY, linked(3, 3)), ("b", (1,), EMPTY, linked(2, 2)), ("p", (1,), linked(1, 1), EMPTY),
                  ("c", (1,), EMPTY, EMPTY)]
        self.assert_answer(table, ("count", "m", "z"), forged, 2)
        self.assert_answer(table, ("sum", 0, "m", "z"), forged, 2)
        # It goes to the left at c, then at x, then to the right at d. The key below which it lies is x, which is
        # greater than m.
        forged = [("c", (1,), linked(3, 3), EMPTY), ("x", (1,), linked(2, 2), EMPTY), ("d", (1,), EMPTY, linked(1, 1)),
                  ("q", (1,), EMPTY, EMPTY)]
        self.assert_answer(table, ("count", "b", "m"), forged, 2)
        self.assert_answer(table, ("sum", 0, "b", "m"), forged, 2)

    def test_keys_out_of_order(self):
        table = [("a", (1,)), ("b", (2,)), ("c", (3,))]
        forged = [("b", (2,), linked(1, 1), linked(1, 3)), ("z", (1,), EMPTY, EMPTY), ("a", (3,), EMPTY, EMPTY)]
        self.assert_answer(table, ("range", "", LAST), forged, [("z", (1,)), ("b", (2,)), ("a", (3,))])
        self.assert_answer(table, ("range", "a", "c"), forged, [("b", (2,)), ("a", (3,))])
        self.assert_answer(table, ("next", "", 100), forged, [("z", (1,)), ("b", (2,)), ("a", (3,))])
        self.assert_answer(table, ("next", "", 2), forged[:2], [("z", (1,)), ("b", (2,))])
        self.assert_answer(table, ("next", "a", 3), forged, [("z", (1,)), ("b", (2,))])

    def test_equal_keys(self):
        table = [("a", (1,)), ("b", (2,)), ("c", (3,))]
        forged = [("b", (2,), linked(1, 1), linked(1, 3)), ("b", (1,), EMPTY, EMPTY), ("b", (3,), EMPTY, EMPTY)]
        self.assert_answer(table, ("get", "b"), forged[:1], (2,))
        self.assert_answer(table, ("range", "a", "c"), forged, [("b", (1,)), ("b", (2,)), ("b", (3,))])
        self.assert_answer(table, ("place", "b"), forged[:2], 0)
        self.assert_answer(table, ("count", "a", "c"), forged, 3)

    def test_places(self):
        table = [("a", (1,)), ("b", (2,)), ("c", (3,))]
        forged = [("b", (2,), linked(1, 1), linked(1, 3)), ("c", (3,), EMPTY, EMPTY)]
        self.assert_answer(table, ("place", "d"), forged, 3)
        self.assert_answer(table, ("place", "c"), forged, 2)
        self.assert_answer(table, ("at", 1), forged[:1], ("b", (2,)))
        self.assert_answer(table, ("at", 2), forged, ("c", (3,)))
        lopsided = [("b", (2,), EMPTY, linked(2, 4)), ("c", (3,), EMPTY, linked(1, 1))]
        self.assert_answer(table, ("at", 0), lopsided[:1], ("b", (2,)))
        self.assert_answer(table, ("at", 1), lopsided, ("c", (3,)))
        self.assert_answer(table, ("place", "c"), lopsided, 1)

    def test_refused_later(self):
        head = linked(3, 6)
        forged = ("b", (2,), (7, 1, (1, 0, 0)), linked(1, 3))
        true_left = ("a", (1,), EMPTY, EMPTY)
        self.assertEqual(read(RULE, head, ("get", "a"), [forged, true_left]), ("refused", "digest", 1))
        forged = ("b", (2,), linked(1, 0), linked(1, 4))
        self.assertEqual(read(RULE, head, ("get", "a"), [forged, true_left]), ("refused", "sums", 1))
        self.assertEqual(read(RULE, head, ("get", "a"), [forged]), ("refused", "short", 1))
        self.assertEqual(read(RULE, head, ("get", "b"), [forged, true_left]), ("refused", "long", 1))
        self.assertEqual(read(RULE, head, ("get", "a"), [forged, None]), ("refused", "form", 1))


class ForgedChangesTest(unittest.TestCase):

    def assert_head(self, head, change, certificate, expected):
        with self.subTest(change=change):
            self.assertEqual(read_change(RULE, head, change, certificate), ("head", expected))

    def test_put_keeps_the_sums_of_other_parts(self):
        # Where nothing is split, the links of the parts stay as they are.
        for forged in (("c", (2,), ODD, EMPTY), ("c", (2,), EMPTY, ODD)):
            self.assert_head(linked(1, 6), ("put", "c", (9,)), [forged], linked(1, 13))
        self.assert_head(linked(1, 6), ("put", "b", (9,)), [("c", (2,), EMPTY, ODD)], linked(2, 15))
        self.assert_head(linked(1, 6), ("put", "d", (9,)), [("c", (2,), ODD, EMPTY)], linked(2, 15))

    def test_put_at_an_odd_empty_part_makes_two_empty_trees(self):
        self.assert_head(linked(1, 6), ("put", "b", (9,)), [("c", (2,), ODD, EMPTY)], linked(2, 11))
        # d stands above c, so c is split.
        self.assert_head(linked(1, 6), ("put", "d", (9,)), [("c", (2,), EMPTY, ODD)], linked(2, 11))

    def test_put_of_a_key_that_the_split_meets(self):
        # d stands above c, and stands below it all the same: its row is lost, its parts stay.
        forged = [("c", (1,), EMPTY, linked(2, 5)), ("d", (2,), EMPTY, linked(1, 3))]
        self.assert_head(linked(3, 6), ("put", "d", (7,)), forged, linked(3, 1 + 7 + 3))

    def test_remove_gives_the_second_part_if_the_first_is_empty(self):
        self.assert_head(linked(1, 6), ("remove", "c"), [("c", (2,), EMPTY, ODD)], ODD)
        self.assert_head(linked(1, 6), ("remove", "c"), [("c", (2,), ODD, EMPTY)], EMPTY)
        self.assert_head(linked(2, 6), ("remove", "c"), [("c", (2,), linked(1, 0), ODD)], linked(1, 0))
        self.assert_head(linked(2, 6), ("remove", "c"), [("c", (2,), ODD, linked(1, 0))], linked(1, 0))
        self.assert_head(linked(1, 10), ("remove", "c"), [("c", (2,), ODD, (7, 0, (4, 0, 0)))], (7, 0, (4, 0, 0)))

    def test_remove_of_a_key_that_is_not_there_changes_nothing(self):
        for forged in (("c", (2,), ODD, EMPTY), ("c", (2,), EMPTY, ODD)):
            self.assert_head(linked(1, 6), ("remove", "b"), [forged], linked(1, 6))
            self.assert_head(linked(1, 6), ("remove", "d"), [forged], linked(1, 6))

    def test_merge_of_equal_keys_has_the_second_one_as_root(self):
        # Only the root's digest tells: the keys of the two parts have the same one, but the first has a longer row.
        first, second = ("a", (1, 1), EMPTY, EMPTY), ("a", (2,), EMPTY, EMPTY)
        top = ("c", (3,), (45, 1, (1, 1, 0)), linked(1, 2))
        self.assert_head((43, 3, (6, 1, 0)), ("remove", "c"), [top, first, second], (43, 2, (3, 1, 0)))
        first, second = ("a", (2,), EMPTY, EMPTY), ("a", (1, 1), EMPTY, EMPTY)
        top = ("c", (3,), linked(1, 2), (45, 1, (1, 1, 0)))
        self.assert_head((43, 3, (6, 1, 0)), ("remove", "c"), [top, first, second], (45, 2, (3, 1, 0)))


class ForgedPairsTest(unittest.TestCase):

    def test_join(self):
        heads = linked(2, 3), linked(1, 5)
        certificate = [("b", (1,), linked(1, 2), EMPTY), ("a", (5,), EMPTY, EMPTY), ("a", (2,), EMPTY, EMPTY)]
        self.assertEqual(read_join(RULE, *heads, ("", LAST), certificate), ("answer", [("a", (2,), (5,))]))
        certificate = [("b", (1,), linked(1, 2), EMPTY), ("b", (5,), EMPTY, EMPTY)]
        self.assertEqual(read_join(RULE, *heads, ("", LAST), certificate), ("answer", [("b", (1,), (5,))]))
        # The left part of the first has a key for which the lower part of the second has nothing.
        certificate = [("b", (1,), linked(1, 2), EMPTY), ("a", (5,), EMPTY, EMPTY), ("x", (2,), EMPTY, EMPTY)]
        self.assertEqual(read_join(RULE, *heads, ("", LAST), certificate), ("answer", []))

    def test_join_with_odd_empty_parts(self):
        heads = linked(1, 6), linked(1, 6)
        certificate = [("c", (2,), ODD, EMPTY), ("c", (1,), ODD, (7, 0, (1, 0, 0)))]
        self.assertEqual(read_join(RULE, *heads, ("", LAST), certificate), ("answer", [("c", (2,), (1,))]))

    def test_differences_with_odd_empty_parts(self):
        heads = linked(1, 6), linked(1, 9)
        for left, right in ((ODD, EMPTY), (EMPTY, ODD)):
            certificate = [("c", (2,), left, right), ("c", (9,), EMPTY, EMPTY)]
            self.assertEqual(read_differences(RULE, *heads, certificate), ("answer", [("c", (2,), (9,))]))
            certificate = [("c", (6,), EMPTY, EMPTY), ("c", (5,), left, right)]
            self.assertEqual(read_differences(RULE, *heads, certificate), ("answer", [("c", (6,), (5,))]))
            certificate = [("c", (6,), EMPTY, EMPTY), ("d", (5,), left, right)]
            self.assertEqual(read_differences(RULE, *heads, certificate),
                             ("answer", [("c", (6,), None), ("d", None, (5,))]))

    def test_differences_skip_parts_with_equal_links(self):
        first, second = [("a", (1,)), ("b", (2,))], [("a", (2,)), ("b", (1,))]
        self.assertEqual(certified_differences(RULE, first, second), ([], []))
        self.assertEqual(read_differences(RULE, head_of(RULE, first), head_of(RULE, second), []), ("answer", []))
        self.assertEqual(clash_of_tables(RULE, first, second),
                         (("b", (2,), linked(1, 1), EMPTY), ("b", (1,), linked(1, 2), EMPTY)))

    def test_differences_go_on_with_taken_entries(self):
        heads = linked(2, 3), linked(2, 5)
        certificate = [("b", (1,), linked(1, 2), EMPTY), ("b", (3,), linked(1, 2), EMPTY)]
        self.assertEqual(read_differences(RULE, *heads, certificate), ("answer", [("b", (1,), (3,))]))
        certificate = [("b", (1,), EMPTY, linked(1, 2)), ("a", (2,), EMPTY, linked(1, 3)), ("e", (3,), EMPTY, EMPTY),
                       ("f", (2,), EMPTY, EMPTY)]
        self.assertEqual(read_differences(RULE, *heads, certificate), ("answer", [
            ("a", None, (2,)), ("b", (1,), None), ("e", None, (3,)), ("f", (2,), None)]))


def exchanged(source, table):
    """A table in which some rows have changed their places, and perhaps a key is another one."""
    keys = [key for key, _ in table]
    rows = [row for _, row in table]
    for _ in range(source.randint(0, 2)):
        if rows:
            first, second = source.randrange(len(rows)), source.randrange(len(rows))
            rows[first], rows[second] = rows[second], rows[first]
    found = dict(zip(keys, rows))
    if keys and source.random() < 0.5:
        key = source.choice(keys)
        row = found.pop(key)
        found[key[:-1] + source.choice(ref.SIGNS)] = row
    return sorted(found.items())


class WholePromiseTest(unittest.TestCase):
    """A taken certificate gives the right answer, or there is a clash."""

    def setUp(self):
        self.source = random.Random(13)
        self.wrong = {}

    def cases(self, many):
        """Rules, two tables, and keys for forged entries."""
        for _ in range(many):
            rule = (self.source.randint(1, 20), self.source.randint(2, 7))
            first = ref.random_table(self.source, self.source.randint(0, 8), self.source.choice([0, 1, 100]))
            second = exchanged(self.source, first) if self.source.random() < 0.6 else ref.random_table(
                self.source, self.source.randint(0, 8), self.source.choice([0, 1, 100]))
            keys = [key for key, _ in first + second]
            yield rule, first, second, keys + ["a", "bb", "ccc"]

    def forge(self, rule, keys, honest, walk):
        """A certificate that is taken and what the reader that follows the document makes of it."""
        while True:
            forger = ref.Forger(rule, self.source.random(), keys, honest)
            try:
                return forger.certificate, walk(ref.WordByWord(rule, forger))
            except ref.NoForgery:
                pass

    def assert_promise(self, kind, rule, honest, forged, told, right, tables_clash=None):
        if told == right:
            return
        self.wrong[kind] = self.wrong.get(kind, 0) + 1
        differing = [(one, other) for one, other in zip(honest, forged) if one != other]
        if differing and ref.entry_link(rule, differing[0][0])[0] == ref.entry_link(rule, differing[0][1])[0]:
            self.assertEqual(clash(rule, honest, forged), differing[0])
        else:
            self.assertIsNotNone(tables_clash)

    def test_queries(self):
        for rule, table, _, keys in self.cases(1500):
            head, query = head_of(rule, table), ref.random_query(self.source, table)
            expected, honest = answered(rule, table, query)
            forged, told = self.forge(rule, keys, honest, lambda walk: walk.query(head, query))
            self.assertEqual(read(rule, head, query, forged), told)
            self.assert_promise(query[0], rule, honest, forged, told, ("answer", expected))
        self.assertEqual(sorted(self.wrong), sorted(ref.QUERIES))

    def test_changes(self):
        for rule, table, _, keys in self.cases(1500):
            head, change = head_of(rule, table), ref.random_change(self.source, table)
            expected, honest = certified_change(rule, table, change)
            forged, told = self.forge(rule, keys, honest, lambda walk: walk.change(head, change))
            self.assertEqual(read_change(rule, head, change, forged), told)
            self.assert_promise(change[0], rule, honest, forged, told, ("head", expected))
        self.assertEqual(sorted(self.wrong), ["put", "remove"])

    def test_joins(self):
        for rule, first, second, keys in self.cases(700):
            heads = head_of(rule, first), head_of(rule, second)
            bounds = ref.random_bound(self.source, first), ref.random_bound(self.source, second)
            rows, honest = certified_join(rule, first, second, *bounds)
            forged, told = self.forge(rule, keys, honest, lambda walk: walk.join(*heads, *bounds))
            self.assertEqual(read_join(rule, *heads, bounds, forged), told)
            self.assert_promise("join", rule, honest, forged, told, ("answer", rows))
        self.assertGreater(self.wrong["join"], 50)

    def test_differences(self):
        for rule, first, second, keys in self.cases(700):
            heads = head_of(rule, first), head_of(rule, second)
            honest = certified_differences(rule, first, second)[1]
            forged, told = self.forge(rule, keys, honest, lambda walk: walk.differences(*heads))
            self.assertEqual(read_differences(rule, *heads, forged), told)
            self.assert_promise("differences", rule, honest, forged, told,
                                ("answer", changes_between(first, second)), clash_of_tables(rule, first, second))
        self.assertGreater(self.wrong["differences"], 50)


if __name__ == "__main__":
    unittest.main()
