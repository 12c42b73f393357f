"""Tests of rightrows.batches: several changes with one certificate, made and read (point 34)."""

import random
import unittest

import reference as ref
from rightrows import batches
from rightrows.batches import certified_batch, read_batch
from rightrows.clashes import clash
from rightrows.reading import certified_change, read_change
from rightrows.tables import changed_table
from rightrows.trees import head_of

# By this rule a digest is the number of integers in the encoding: 9 for the
# empty tree, and 43 for each entry with a key of one sign and a row of one integer.
LENGTH_RULE = (10 ** 9, 10 ** 9)
EMPTY = (9, 0, (0, 0, 0))
# The sums of an empty part should be 0. These stand in taken entries all the same.
ODD = (5, 0, (4, 0, 0))
LINK = (5, 1, (1, 1, 1))


def linked(count, total):
    return (43, count, (total, 0, 0))


def table_after(table, changes):
    for change in changes:
        table = changed_table(table, change)
    return table


def random_changes(source, table, many):
    """Changes that often have the same keys."""
    keys = [ref.random_key(source, table) for _ in range(source.randint(1, many + 1))]
    changes = []
    for _ in range(many):
        change = ref.random_change(source, table)
        changes.append(change[:1] + (source.choice(keys),) + change[2:])
    return changes


class BatchCase(ref.KeepingTest):

    def assert_batch(self, table, changes, certificate, rule=ref.RULE):
        """See that changes have a right certificate, and that it leads to the head of the table after all of them."""
        with self.subTest(changes=changes):
            head = ref.link(rule, tuple(table_after(table, changes)))
            given = self.kept(certified_batch, rule, table, changes)
            self.assertEqual(given, (head, certificate))
            self.assertEqual([type(part) for part in (given, given[0], given[1])], [tuple, tuple, list])
            told = self.kept(read_batch, rule, head_of(rule, table), changes, certificate)
            self.assertEqual(told, ("head", head))
            self.assertIs(type(told), tuple)

    def assert_opened(self, changes, keys):
        """The same for the tree that was worked out by hand, with the opened keys in one string."""
        self.assert_batch(ref.FRUIT, changes, ref.fruit_entries(ref.RULE, keys))

    def assert_as_worked_out(self, rule, table, changes):
        self.assert_batch(table, changes, ref.batch_certificate(rule, table, changes), rule)


class WalkTest(BatchCase):

    def test_no_change(self):
        for rule in (ref.RULE, (1, 2)):
            for table in ([], ref.FRUIT, ref.OTHER, [("a", (1,))]):
                self.assert_batch(table, [], [], rule)

    def test_one_change(self):
        for change in (("put", "fig", (1,)), ("put", "wren", (2,)), ("put", "melon", (2, 3)), ("remove", "date"),
                       ("remove", "kiwi"), ("remove", "nothing")):
            head, certificate = certified_change(ref.RULE, ref.FRUIT, change)
            self.assertEqual(certified_batch(ref.RULE, ref.FRUIT, [change]), (head, certificate))
            self.assert_batch(ref.FRUIT, [change], certificate)
            for wrong in (certificate[:-1], certificate + [None], certificate[::-1]):
                self.assertEqual(read_batch(ref.RULE, head_of(ref.RULE, ref.FRUIT), [change], wrong),
                                 read_change(ref.RULE, head_of(ref.RULE, ref.FRUIT), change, wrong))

    def test_several_changes(self):
        # Each row tells what is opened that was not opened before.
        self.assert_opened([("put", "pear", (1,)), ("put", "apple", (2,)), ("put", "fig", (3,))],
                           "date kiwi plum lime pear" + " apple" + " fig")
        self.assert_opened([("put", "fig", (3,)), ("put", "apple", (2,)), ("put", "pear", (1,))],
                           "date kiwi fig" + " apple" + " plum lime pear")
        self.assert_opened([("remove", "nothing"), ("remove", "date")], "date kiwi plum lime pear" + " apple fig")
        self.assert_opened([("remove", "date"), ("remove", "nothing")], "date apple kiwi fig" + " plum lime pear")

    def test_parts_that_were_made(self):
        # wren stands above date; then all of its left is made or opened but for apple, fig, and lime with pear.
        self.assert_opened([("put", "wren", (1,)), ("remove", "wren"), ("put", "fig", (2,))], "date kiwi plum fig")
        # hawk stands above kiwi, which has nothing on its left after that, so that nothing is left to be merged.
        self.assert_opened([("put", "hawk", (1,)), ("remove", "fig"), ("remove", "hawk")], "date kiwi fig")
        self.assert_opened([("put", "ant", (1,)), ("put", "ant", (2,)), ("remove", "ant")], "date apple")

    def test_same_key_several_times(self):
        for key, keys in (("date", "date"), ("apple", "date apple"), ("pear", "date kiwi plum lime pear"),
                          ("melon", "date kiwi plum lime pear"), ("wren", "date kiwi plum")):
            self.assert_opened([("put", key, (number,)) for number in range(1, 6)], keys)
            self.assert_opened([("put", key, (1,)), ("put", key, (1, 0)), ("put", key, (1,))], keys)

    def test_put_and_then_removed(self):
        # Where the key has two parts they are merged, so that more may be opened.
        self.assert_opened([("put", "pear", (1,)), ("remove", "pear")], "date kiwi plum lime pear")
        self.assert_opened([("put", "ant", (1,)), ("remove", "ant")], "date apple")
        self.assert_opened([("put", "melon", (1,)), ("remove", "melon")], "date kiwi plum lime pear")
        self.assert_opened([("put", "date", (1,)), ("remove", "date")], "date apple kiwi fig")
        for key in ("ant", "hawk", "melon", "wren", "quince", "a"):
            head, _ = certified_batch(ref.RULE, ref.FRUIT, [("put", key, (1,)), ("remove", key)])
            self.assertEqual(head, head_of(ref.RULE, ref.FRUIT))

    def test_removed_and_then_put(self):
        self.assert_opened([("remove", "date"), ("put", "date", (4,))], "date apple kiwi fig")
        # fig has come to stand above plum. It is split at kiwi, and so are plum and lime below it.
        self.assert_opened([("remove", "kiwi"), ("put", "kiwi", (9,))], "date kiwi fig plum" + " lime")
        self.assert_opened([("remove", "apple"), ("put", "apple", (9,))], "date apple")
        for key, row in ref.FRUIT:
            head, _ = certified_batch(ref.RULE, ref.FRUIT, [("remove", key), ("put", key, row)])
            self.assertEqual(head, head_of(ref.RULE, ref.FRUIT))

    def test_removed_several_times(self):
        self.assert_opened([("remove", "date"), ("remove", "date"), ("put", "date", (1,)), ("remove", "date")],
                           "date apple kiwi fig")

    def test_changes_that_change_nothing(self):
        self.assert_opened([("put", key, row) for key, row in ref.FRUIT], "date apple kiwi fig plum lime pear")
        self.assert_opened([("remove", "nothing"), ("put", "lime", (0, 65535)), ("remove", "melon")],
                           "date kiwi plum lime pear")
        self.assert_opened([("remove", "b"), ("remove", "c"), ("remove", "b")], "date apple")

    def test_all_rows_removed_and_put_again(self):
        keys = [key for key, _ in ref.FRUIT]
        gone = [("remove", key) for key in keys]
        again = [("put", key, row) for key, row in ref.FRUIT]
        certificate = ref.batch_certificate(ref.RULE, ref.FRUIT, gone)
        self.assertEqual(sorted(entry[0] for entry in certificate), keys)
        self.assert_batch(ref.FRUIT, gone, certificate)
        self.assert_batch(ref.FRUIT, gone + again, certificate)
        self.assert_batch(ref.FRUIT, gone + again + gone, certificate)

    def test_empty_table_at_the_beginning(self):
        for rule in (ref.RULE, (1, 2), (3, 5)):
            changes = [("put", key, row) for key, row in ref.FRUIT]
            self.assert_batch([], changes, [], rule)
            self.assert_batch([], changes[::-1] + [("remove", "fig"), ("remove", "date")], [], rule)
            self.assert_batch([], [("remove", "a"), ("remove", "a")], [], rule)

    def test_empty_table_in_between_and_at_the_end(self):
        entry = ("m", (5,), ref.link(ref.RULE, ()), ref.link(ref.RULE, ()))
        self.assert_batch([("m", (5,))], [("remove", "m")], [entry])
        self.assert_batch([("m", (5,))], [("remove", "m"), ("put", "a", (1,))], [entry])
        self.assert_batch([("m", (5,))], [("remove", "m"), ("put", "m", (5,)), ("remove", "m")], [entry])
        self.assert_batch([], [("put", "m", (5,)), ("remove", "m")], [])
        self.assert_batch([], [("put", "m", (5,)), ("remove", "m"), ("put", "b", (5,))], [])

    def test_row_with_another_length(self):
        heads = {certified_batch(ref.RULE, ref.FRUIT, [("put", "fig", (7,)), ("put", "fig", row)])[0]
                 for row in ((7,), (7, 0), (7, 0, 0))}
        self.assertEqual(len(heads), 3)

    def test_each_part_at_most_once(self):
        source = random.Random(50)
        for _ in range(100):
            table = ref.random_table(source, source.randint(0, 12))
            certificate = certified_batch(ref.RULE, table, random_changes(source, table, 15))[1]
            opened = [ref.entry(ref.RULE, part) for part, _ in ref.parts(tuple(table))]
            self.assertEqual([certificate.count(entry) for entry in certificate], [1] * len(certificate))
            self.assertEqual([entry for entry in certificate if entry not in opened], [])

    def test_many_tables_and_changes(self):
        source = random.Random(51)
        for _ in range(500):
            rule = source.choice([ref.RULE, (1, 2), (3, 5), (10 ** 18, 10 ** 18 - 1)])
            table = ref.random_table(source, source.randint(0, 12))
            self.assert_as_worked_out(rule, table, random_changes(source, table, source.randint(0, 8)))

    def test_full_and_deepest_tables(self):
        source = random.Random(52)
        for table in (ref.random_table(source, 100), ref.chain_table(100)):
            for many in (5, 30):
                self.assert_as_worked_out(ref.RULE, table, random_changes(source, table, many))

    def test_somewhat_beyond_the_limits(self):
        table = ref.chain_table(300)
        changes = [("put", "aa", (1,)), ("put", "wren", (1,)), ("remove", "aa"), ("put", "toolongkey", (1, 2))]
        head, certificate = self.kept(certified_batch, ref.RULE, table, changes)
        self.assertEqual(head, head_of(ref.RULE, table_after(table, changes)))
        self.assertEqual(read_batch(ref.RULE, head_of(ref.RULE, table), changes, certificate), ("head", head))

    def test_returned_list_is_new(self):
        changes = [("put", "fig", (1,)), ("remove", "date")]
        expected = certified_batch(ref.RULE, ref.FRUIT, changes)
        certified_batch(ref.RULE, ref.FRUIT, changes)[1].clear()
        self.assertEqual(certified_batch(ref.RULE, ref.FRUIT, changes), expected)

    def test_defined_in_their_file(self):
        for function in (certified_batch, read_batch):
            self.assertEqual(function.__module__, batches.__name__)


class RefusalTest(BatchCase):

    CHANGES = [("put", "wren", (1,)), ("remove", "date"), ("put", "pear", (1,)), ("put", "wren", (2,))]

    def setUp(self):
        self.certificate = ref.batch_certificate(ref.RULE, ref.FRUIT, self.CHANGES)

    def assert_refused(self, certificate, word, number, rule=ref.RULE, changes=None):
        with self.subTest(certificate=certificate):
            told = self.kept(read_batch, rule, head_of(rule, ref.FRUIT), changes or self.CHANGES, certificate)
            self.assertEqual(told, ("refused", word, number))
            self.assertIs(type(told), tuple)

    def test_right_certificate(self):
        self.assertEqual([entry[0] for entry in self.certificate], "date kiwi plum apple fig lime pear".split())
        self.assert_batch(ref.FRUIT, self.CHANGES, self.certificate)

    def test_short(self):
        for number in range(7):
            self.assert_refused(self.certificate[:number], "short", number)

    def test_long(self):
        for left in (None, True, 5, "", (), self.certificate[0], self.certificate[6]):
            self.assert_refused(self.certificate + [left], "long", 7)
            self.assert_refused(self.certificate + [left, left], "long", 7)
        # The entries of each change by itself are too many.
        table, separate = ref.FRUIT, []
        for change in self.CHANGES:
            separate.extend(ref.change_certificate(ref.RULE, table, change))
            table = changed_table(table, change)
        self.assert_refused(separate, "digest", 3)

    def test_long_without_changes(self):
        head = head_of(ref.RULE, ref.FRUIT)
        for left in (None, self.certificate[0]):
            self.assertEqual(read_batch(ref.RULE, head, [], [left]), ("refused", "long", 0))

    def test_form(self):
        for number, (key, row, left, right) in enumerate(self.certificate):
            for wrong in (None, True, (), (key, row, left), ("Fig", row, left, right), (key, (), left, right),
                          (key, (65536,), left, right), (key, (True,), left, right), (key, row, (5, 1), right),
                          (key, row, left, (5, 1, (0, 0, -1)))):
                self.assert_refused(self.certificate[:number] + [wrong] + self.certificate[number + 1:], "form", number)

    def test_digest(self):
        for number, (key, row, left, right) in enumerate(self.certificate):
            for wrong in ((key + "0", row, left, right), (key, (row[0] ^ 1,) + row[1:], left, right),
                          (key, row, LINK, right), (key, row, left, LINK), ("m", (1,), LINK, LINK)):
                self.assert_refused(self.certificate[:number] + [wrong] + self.certificate[number + 1:], "digest",
                                    number)

    def test_sums(self):
        certificate = ref.batch_certificate(LENGTH_RULE, ref.FRUIT, self.CHANGES)
        for number, (key, row, left, right) in enumerate(certificate):
            for wrong in ((key, row, (left[0], left[1] + 1, left[2]), right),
                          (key, row, left, (right[0], right[1], (right[2][0] + 1,) + right[2][1:]))):
                self.assert_refused(certificate[:number] + [wrong] + certificate[number + 1:], "sums", number,
                                    LENGTH_RULE)

    def test_entries_left_out_or_exchanged(self):
        for first in range(6):
            self.assert_refused(self.certificate[:first] + self.certificate[first + 1:], "digest", first)
            for second in range(first + 1, 7):
                given = list(self.certificate)
                given[first], given[second] = given[second], given[first]
                self.assert_refused(given, "digest", first)

    def test_changes_in_another_order(self):
        head = head_of(ref.RULE, ref.FRUIT)
        self.assertEqual(read_batch(ref.RULE, head, self.CHANGES[::-1], self.certificate), ("refused", "digest", 3))

    def test_fewer_and_more_changes(self):
        self.assert_refused(self.certificate, "long", 3, changes=self.CHANGES[:1])
        self.assert_refused(self.certificate, "long", 5, changes=self.CHANGES[:2])
        self.assert_refused(self.certificate[:3], "short", 3, changes=self.CHANGES[:2])


class ForgedTest(BatchCase):

    def assert_head(self, head, changes, certificate, expected):
        with self.subTest(changes=changes):
            self.assertEqual(read_batch(LENGTH_RULE, head, changes, certificate), ("head", expected))

    def test_row_that_is_not_that_of_the_table(self):
        forged = ("c", (2,), linked(1, 4), EMPTY)
        self.assert_head(linked(2, 6), [("put", "c", (9,)), ("put", "c", (0,))], [forged], linked(2, 4))
        self.assert_head(linked(2, 6), [("put", "c", (9,)), ("remove", "c")], [forged], linked(1, 4))

    def test_odd_empty_parts_between_changes(self):
        # What an opened entry says of its empty parts stays until something is made there.
        forged = ("c", (2,), ODD, EMPTY)
        self.assert_head(linked(1, 6), [("put", "c", (9,))], [forged], linked(1, 13))
        self.assert_head(linked(1, 6), [("put", "c", (9,)), ("remove", "d"), ("put", "c", (1,))], [forged],
                         linked(1, 5))
        self.assert_head(linked(1, 6), [("put", "c", (9,)), ("put", "b", (1,))], [forged], linked(2, 10))
        self.assert_head(linked(1, 6), [("put", "c", (9,)), ("put", "b", (1,)), ("remove", "b")], [forged],
                         linked(1, 9))
        # d stands above c: splitting makes two empty trees of c's right part, and c keeps its left one.
        self.assert_head(linked(1, 6), [("put", "d", (1,)), ("remove", "d")], [forged], linked(1, 6))
        self.assert_head(linked(1, 6), [("put", "d", (1,)), ("remove", "d")], [("c", (2,), EMPTY, ODD)], linked(1, 2))

    def test_head_of_an_odd_empty_part(self):
        self.assert_head(linked(1, 6), [("remove", "c"), ("remove", "c")], [("c", (2,), EMPTY, ODD)], ODD)
        self.assert_head(linked(1, 6), [("remove", "c"), ("put", "b", (1,))], [("c", (2,), EMPTY, ODD)], linked(1, 1))

    def test_keys_that_stand_in_a_wrong_place(self):
        # The removed key stands in the tree once more; the second remove meets it.
        forged = [("b", (1,), linked(1, 2), EMPTY), ("b", (2,), EMPTY, EMPTY)]
        self.assert_head(linked(2, 3), [("remove", "b")], forged[:1], linked(1, 2))
        self.assert_head(linked(2, 3), [("remove", "b"), ("remove", "b")], forged, EMPTY)

    def test_promise(self):
        # Points 23 and 24: a taken certificate gives the right head, or there is a clash.
        source = random.Random(53)
        wrong = 0
        for _ in range(1000):
            rule = (source.randint(1, 20), source.randint(2, 7))
            table = ref.random_table(source, source.randint(0, 8), source.choice([0, 1, 100]))
            changes = random_changes(source, table, source.randint(0, 5))
            head = head_of(rule, table)
            expected, honest = certified_batch(rule, table, changes)
            keys = [key for key, _ in table] + [change[1] for change in changes] + ["bb", "ccc"]
            try:
                forger = ref.Forger(rule, source.random(), keys, honest)
                told = ref.WordByWord(rule, forger).batch(head, changes)
            except ref.NoForgery:
                continue
            self.assertEqual(read_batch(rule, head, changes, forger.certificate), told)
            if told != ("head", expected):
                wrong += 1
                one, other = next((one, other) for one, other in zip(honest, forger.certificate) if one != other)
                self.assertEqual(clash(rule, honest, forger.certificate), (one, other))
                self.assertEqual(ref.entry_link(rule, one)[0], ref.entry_link(rule, other)[0])
        self.assertGreater(wrong, 200)

    def test_as_the_reader_that_follows_the_document(self):
        source = random.Random(54)
        words = {}
        for _ in range(1000):
            rule = (source.randint(1, 9), source.randint(2, 9))
            table = ref.random_table(source, source.randint(1, 8), source.choice([1, 100]))
            changes = random_changes(source, table, source.randint(1, 5))
            head = head_of(rule, table)
            given = self.spoilt(source, certified_batch(rule, table, changes)[1])
            told = read_batch(rule, head, changes, given)
            self.assertEqual(told, ref.word_by_word(rule, given, lambda walk: walk.batch(head, changes)))
            words[told[1] if told[0] == "refused" else told[0]] = True
        self.assertEqual(sorted(words), ["digest", "form", "head", "long", "short", "sums"])

    def spoilt(self, source, certificate):
        given = list(certificate)
        for _ in range(source.randint(0, 2)):
            place = source.randint(0, len(given))
            kind = source.randrange(4)
            if kind == 0:
                given.insert(place, source.choice(certificate + [None]))
            elif kind == 1:
                del given[place:place + 1]
            elif place < len(given) and given[place] is not None:
                key, row, left, right = given[place]
                change = source.randint(0, 2)
                given[place] = (key, (change,) if kind == 2 else row,
                                (left[0], left[1] + (change == 0), (source.randint(0, 3),) + left[2][1:]), right)
        return given


if __name__ == "__main__":
    unittest.main()
