"""Tests of put and remove in rightrows.reading: their walks (point 17), each made and read."""

import random
import unittest

import reference as ref
from rightrows import reading
from rightrows.openers import Recorder
from rightrows.reading import certified_change, read_change
from rightrows.splices import spliced
from rightrows.tables import changed_table
from rightrows.trees import head_of, tree_of


class ChangeTest(ref.KeepingTest):

    def assert_walk(self, table, change, certificate, rule=ref.RULE):
        """See that a change has a right certificate, and that it leads to the head of the changed table."""
        with self.subTest(change=change):
            head = ref.link(rule, tuple(changed_table(table, change)))
            given = self.kept(certified_change, rule, table, change)
            self.assertEqual(given, (head, certificate))
            self.assertEqual([type(part) for part in (given, given[0], given[1])], [tuple, tuple, list])
            self.assertEqual(self.kept(read_change, rule, head_of(rule, table), change, certificate), ("head", head))

    def assert_opened(self, change, keys):
        """The same for the tree that was worked out by hand, with the opened keys in one string."""
        self.assert_walk(ref.FRUIT, change, ref.fruit_entries(ref.RULE, keys))

    def assert_as_worked_out(self, rule, table, change):
        self.assert_walk(table, change, ref.change_certificate(rule, table, change), rule)


class PutTest(ChangeTest):

    def test_keys_that_are_there(self):
        self.assert_opened(("put", "date", (6, 7, 8)), "date")
        self.assert_opened(("put", "apple", (6,)), "date apple")
        self.assert_opened(("put", "kiwi", (65535, 65535, 65535)), "date kiwi")
        self.assert_opened(("put", "pear", (0,)), "date kiwi plum lime pear")

    def test_row_that_is_there(self):
        for key, row in ref.FRUIT:
            head, _ = certified_change(ref.RULE, ref.FRUIT, ("put", key, row))
            self.assertEqual(head, head_of(ref.RULE, ref.FRUIT))

    def test_key_that_stands_above_all_others(self):
        # The ranks of wren and date are 984981 and 981600.
        self.assert_opened(("put", "wren", (1,)), "date kiwi plum")
        self.assert_walk(ref.FRUIT[:1] + ref.FRUIT[2:], ("put", "date", (4,)),
                         ref.query_certificate(ref.RULE, ref.FRUIT[:1] + ref.FRUIT[2:], ("get", "date")))

    def test_keys_at_an_empty_part(self):
        # The rank of acorn is 504280, below that of apple; that of ant is 415729.
        self.assert_opened(("put", "acorn", (1, 2)), "date apple")
        self.assert_opened(("put", "ant", (1, 2)), "date apple")
        # That of dill is 117844, below that of fig.
        self.assert_opened(("put", "dill", (3,)), "date kiwi fig")

    def test_keys_that_split_a_part(self):
        # The ranks of hawk, melon, quince and banana: 974336, 937024, 467275, 896599.
        self.assert_opened(("put", "hawk", (1,)), "date kiwi fig")
        self.assert_opened(("put", "melon", (1,)), "date kiwi plum lime pear")
        self.assert_opened(("put", "quince", (1,)), "date kiwi plum")
        self.assert_opened(("put", "banana", (1,)), "date apple")

    def test_empty_table(self):
        self.assert_walk([], ("put", "a", (1,)), [])

    def test_table_of_one_row(self):
        empty = ref.link(ref.RULE, ())
        for key in ("a", "m", "z"):
            self.assert_walk([("m", (5,))], ("put", key, (1,)), [("m", (5,), empty, empty)])

    def test_equal_ranks(self):
        for number, key in enumerate(ref.EQUAL_RANKS):
            table = [(other, (1,)) for other in ref.EQUAL_RANKS if other != key]
            self.assert_walk(table, ("put", key, (2,)), [ref.entry(ref.RULE, tuple(table[place:]))
                                                         for place in range(min(number + 1, 2))])

    def test_row_with_another_length(self):
        heads = {certified_change(ref.RULE, ref.FRUIT, ("put", "fig", row))[0] for row in ((7,), (7, 0), (7, 0, 0))}
        self.assertEqual(len(heads), 3)


class RemoveTest(ChangeTest):

    def test_keys_that_are_not_there(self):
        self.assert_opened(("remove", "a"), "date apple")
        self.assert_opened(("remove", "e"), "date kiwi fig")
        self.assert_opened(("remove", "melon"), "date kiwi plum lime pear")
        self.assert_opened(("remove", "zzzzzzzz"), "date kiwi plum")

    def test_keys_without_one_part(self):
        self.assert_opened(("remove", "apple"), "date apple")
        self.assert_opened(("remove", "fig"), "date kiwi fig")
        self.assert_opened(("remove", "plum"), "date kiwi plum")
        self.assert_opened(("remove", "lime"), "date kiwi plum lime")
        self.assert_opened(("remove", "pear"), "date kiwi plum lime pear")

    def test_root(self):
        # kiwi stands above apple, and apple above fig.
        self.assert_opened(("remove", "date"), "date apple kiwi fig")

    def test_key_with_two_parts(self):
        # fig stands above plum and has nothing on its right.
        self.assert_opened(("remove", "kiwi"), "date kiwi fig plum")

    def test_merge_that_goes_on_for_several_levels(self):
        # Left of date each next key has a lower rank: banana 896599, cherry 823300, chili 639020, cress 52144.
        # Right of it each key before has one: pepper 879950, kale 717141, hazel 688440, fennel 610324, elder 542719.
        keys = "banana cherry chili cress date elder fennel hazel kale pepper".split()
        table = [(key, (number, 1)) for number, key in enumerate(keys)]
        tops = {ref.top(part)[0]: ref.entry(ref.RULE, part) for part, _ in ref.parts(tuple(table))}
        opened = "date banana pepper cherry kale chili hazel fennel cress elder".split()
        self.assert_walk(table, ("remove", "date"), [tops[key] for key in opened])
        # Without kale and all below it, pepper is merged with cherry and chili.
        self.assert_walk(table[:5] + table[9:], ("remove", "date"), [
            ref.entry(ref.RULE, part) for part in (
                tuple(table[:5] + table[9:]), tuple(table[:4]), tuple(table[9:]), tuple(table[1:4]))])

    def test_empty_table_and_table_of_one_row(self):
        empty = ref.link(ref.RULE, ())
        self.assert_walk([], ("remove", "a"), [])
        self.assert_walk([("a", (1,))], ("remove", "a"), [("a", (1,), empty, empty)])
        self.assert_walk([("a", (1,))], ("remove", "b"), [("a", (1,), empty, empty)])

    def test_equal_ranks(self):
        table = [(key, (1,)) for key in ref.EQUAL_RANKS]
        entries = [ref.entry(ref.RULE, tuple(table[number:])) for number in range(3)]
        for number, key in enumerate(ref.EQUAL_RANKS):
            self.assert_walk(table, ("remove", key), entries[:number + 1])

    def test_removed_key_put_again(self):
        for key, row in ref.FRUIT:
            without = changed_table(ref.FRUIT, ("remove", key))
            head, _ = certified_change(ref.RULE, without, ("put", key, row))
            self.assertEqual(head, head_of(ref.RULE, ref.FRUIT))


class BothTest(ChangeTest):

    def test_many_tables_and_changes(self):
        source = random.Random(6)
        for _ in range(1500):
            rule = source.choice([ref.RULE, (1, 2), (3, 5), (10 ** 18, 10 ** 18 - 1)])
            table = ref.random_table(source, source.randint(0, 15))
            self.assert_as_worked_out(rule, table, ref.random_change(source, table))

    def test_full_tables(self):
        source = random.Random(7)
        table = ref.random_table(source, 100)
        for _ in range(60):
            self.assert_as_worked_out(ref.RULE, table, ref.random_change(source, table))

    def test_deepest_table(self):
        table = ref.chain_table(100)
        for change in (("put", "aa", (1,)), ("put", "a0", (1,)), ("put", "zz", (1,)), ("put", "wren", (1,)),
                       ("remove", "aa"), ("remove", "a0"), ("remove", table[-1][0]), ("remove", table[50][0])):
            self.assert_as_worked_out(ref.RULE, table, change)

    def test_table_somewhat_beyond_the_limits(self):
        table = ref.chain_table(600)
        for change in (("put", "aa", (1,)), ("put", "wren", (1,)), ("remove", "aa"), ("remove", table[-1][0])):
            head, certificate = self.kept(certified_change, ref.RULE, table, change)
            self.assertEqual(head, head_of(ref.RULE, changed_table(table, change)))
            self.assertEqual(self.kept(read_change, ref.RULE, head_of(ref.RULE, table), change, certificate),
                             ("head", head))

    def test_nothing_is_opened_twice(self):
        # Changes on the tree that others have left: what was opened or made is not opened again.
        for changes, keys in (((("put", "hawk", (1,)), ("remove", "fig"), ("put", "fig", (2,))), "date kiwi fig"),
                              ((("remove", "date"), ("put", "date", (1,)), ("remove", "kiwi")),
                               "date apple kiwi fig plum"),
                              ((("remove", "banana"), ("put", "apple", (1,)), ("remove", "apple")), "date apple"),
                              ((("put", "wren", (1,)), ("remove", "wren"), ("remove", "plum")), "date kiwi plum")):
            with self.subTest(changes=changes):
                recorder = Recorder(ref.RULE)
                table, tree = ref.FRUIT, tree_of(ref.RULE, ref.FRUIT)
                for change in changes:
                    table, tree = changed_table(table, change), spliced(recorder, tree, change)
                    self.assertEqual(tree.link, ref.link(ref.RULE, tuple(table)))
                self.assertEqual(recorder.certificate, ref.fruit_entries(ref.RULE, keys))

    def test_returned_list_is_new(self):
        for change in (("put", "fig", (1,)), ("remove", "fig")):
            certificate = certified_change(ref.RULE, ref.FRUIT, change)[1]
            certificate.clear()
            self.assertEqual(certified_change(ref.RULE, ref.FRUIT, change)[1],
                             ref.fruit_entries(ref.RULE, "date kiwi fig"))

    def test_defined_in_their_file(self):
        for function in (certified_change, read_change):
            self.assertEqual(function.__module__, reading.__name__)


if __name__ == "__main__":
    unittest.main()
