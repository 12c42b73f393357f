"""Tests of rightrows.histories: the history of a key, made and read, and its turns (point 35)."""

import random
import unittest

import reference as ref
from rightrows import histories
from rightrows.clashes import clash
from rightrows.histories import certified_history, read_history, turns
from rightrows.reading import read
from rightrows.tables import changed_table
from rightrows.trees import head_of
from rightrows.versions import first_version, next_version

LAST = "zzzzzzzzz"
TABLES = [ref.FRUIT]
for one_change in (("put", "fig", (1, 2)), ("remove", "fig"), ("put", "wren", (3,)), ("put", "fig", (1, 2)),
                   ("remove", "date")):
    TABLES.append(changed_table(TABLES[-1], one_change))
FIG_ROWS = [(7,), (1, 2), None, None, (1, 2), (1, 2)]
# By this rule a digest is the number of integers in the encoding.
LENGTH_RULE = (10 ** 9, 10 ** 9)


def line_of(rule, tables):
    return ref.line_of(rule, [head_of(rule, table) for table in tables])


def certificates_of(rule, tables, key):
    return [ref.query_certificate(rule, table, ("get", key)) for table in tables]


class CertifiedTest(ref.KeepingTest):

    def assert_history(self, rule, tables, key, rows):
        with self.subTest(rule=rule, key=key):
            certificates = certificates_of(rule, tables, key)
            given = self.kept(certified_history, rule, tables, key)
            self.assertEqual(given, (rows, certificates))
            self.assertEqual([type(part) for part in (given,) + given], [tuple, list, list])
            if tables:
                told = self.kept(read_history, rule, line_of(rule, tables), key, certificates)
                self.assertEqual(told, ("answer", rows))
                self.assertEqual([type(part) for part in (told, told[1])], [tuple, list])

    def test_no_tables(self):
        self.assert_history(ref.RULE, [], "a", [])

    def test_one_table(self):
        self.assert_history(ref.RULE, [ref.FRUIT], "fig", [(7,)])
        self.assert_history(ref.RULE, [ref.FRUIT], "nothing", [None])
        self.assert_history(ref.RULE, [[]], "fig", [None])

    def test_several_tables(self):
        for rule in (ref.RULE, (1, 2), (3, 5), (10 ** 18, 10 ** 18 - 1)):
            self.assert_history(rule, TABLES, "fig", FIG_ROWS)
            self.assert_history(rule, TABLES, "date", [(4,)] * 5 + [None])
            self.assert_history(rule, TABLES, "wren", [None] * 3 + [(3,)] * 3)
            self.assert_history(rule, TABLES, "nothing", [None] * 6)
            self.assert_history(rule, TABLES[::-1], "fig", FIG_ROWS[::-1])

    def test_equal_tables(self):
        self.assert_history(ref.RULE, [ref.FRUIT] * 4, "pear", [(2, 3, 4)] * 4)
        self.assert_history(ref.RULE, [[], []], "pear", [None, None])

    def test_many_tables(self):
        source = random.Random(60)
        for _ in range(60):
            rule = source.choice([ref.RULE, (1, 2), (3, 5)])
            tables = [ref.random_table(source, source.randint(0, 10))]
            for _ in range(source.randint(0, 6)):
                tables.append(changed_table(tables[-1], ref.random_change(source, tables[-1])))
            key = ref.random_key(source, tables[0])
            self.assert_history(rule, tables, key, [dict(table).get(key) for table in tables])

    def test_returned_lists_are_new(self):
        rows, certificates = certified_history(ref.RULE, TABLES, "fig")
        for certificate in certificates:
            certificate.clear()
        rows.clear()
        certificates.clear()
        same = certified_history(ref.RULE, [ref.FRUIT] * 2, "fig")[1]
        same[0].clear()
        self.assertEqual(same[1], ref.fruit_entries(ref.RULE, "date kiwi fig"))
        line, given = line_of(ref.RULE, TABLES), certificates_of(ref.RULE, TABLES, "fig")
        read_history(ref.RULE, line, "fig", given)[1].clear()
        self.assertEqual(read_history(ref.RULE, line, "fig", given), ("answer", FIG_ROWS))
        self.assertEqual(certified_history(ref.RULE, TABLES, "fig"), (FIG_ROWS, given))

    def test_defined_in_their_file(self):
        for function in (certified_history, read_history, turns):
            self.assertEqual(function.__module__, histories.__name__)


class RefusalTest(ref.KeepingTest):

    def setUp(self):
        self.line = line_of(ref.RULE, TABLES)
        self.certificates = certificates_of(ref.RULE, TABLES, "fig")

    def assert_told(self, expected, versions=None, certificates=None, rule=ref.RULE):
        versions = self.line if versions is None else versions
        certificates = self.certificates if certificates is None else certificates
        with self.subTest(versions=versions, certificates=certificates):
            told = self.kept(read_history, rule, versions, "fig", certificates)
            self.assertEqual(told, expected)
            self.assertIs(type(told), tuple)

    def assert_path(self, versions):
        """See that the path is refused, whatever the certificates are."""
        for certificates in (self.certificates, self.certificates[:len(versions)], [], [[]], [[None]] * len(versions)):
            self.assert_told(("refused", "path", 0, 0), versions, certificates)

    def test_no_versions(self):
        self.assert_path([])

    def test_one_version(self):
        # There is nothing that one version must follow.
        for number in range(6):
            self.assert_told(("answer", FIG_ROWS[number:number + 1]), self.line[number:number + 1],
                             self.certificates[number:number + 1])
        odd = (17, head_of(ref.RULE, ref.FRUIT), 5)
        self.assert_told(("answer", [(7,)]), [odd], self.certificates[:1])

    def test_versions_that_do_not_begin_with_the_first(self):
        for first in range(6):
            for last in range(first, 6):
                self.assert_told(("answer", FIG_ROWS[first:last + 1]), self.line[first:last + 1],
                                 self.certificates[first:last + 1])

    def test_versions_left_out(self):
        for number in range(1, 5):
            self.assert_path(self.line[:number] + self.line[number + 1:])
        self.assert_path(self.line[:1] + self.line[5:])

    def test_versions_exchanged(self):
        for first in range(6):
            for second in range(first):
                given = list(self.line)
                given[first], given[second] = given[second], given[first]
                self.assert_path(given)
        self.assert_path(self.line[::-1])

    def test_versions_doubled(self):
        for number in range(6):
            self.assert_path(self.line[:number + 1] + self.line[number:])
        self.assert_path(self.line[:1] * 2)

    def test_changed_versions(self):
        for number in range(6):
            own, head, before = self.line[number]
            heads = [(head[0] + 1, head[1], head[2]), (head[0], head[1] + 1, head[2]), (head[0], head[1], (0, 0, 0))]
            wrong = [(own + 1, head, before), (own + 7, head, before)]
            # The `before` of the first version and the head of the last one are told by no other version.
            if number > 0:
                wrong.extend([(own, head, before + 1), (own, head, 0)])
            if number < 5:
                wrong.extend([(own, other, before) for other in heads])
            for version in wrong:
                self.assert_path(self.line[:number] + [version] + self.line[number + 1:])

    def test_changed_before_of_the_first_version(self):
        number, head, before = self.line[0]
        self.assert_path([(number, head, before + 1)] + self.line[1:])

    def test_changed_head_of_the_last_version(self):
        number, head, before = self.line[5]
        versions = self.line[:5] + [(number, self.line[0][1], before)]
        self.assert_told(("refused", "digest", 5, 0), versions)
        self.assert_told(("answer", FIG_ROWS[:5] + [(7,)]), versions, self.certificates[:5] + self.certificates[:1])

    def test_too_few_and_too_many_certificates(self):
        for many in (0, 1, 5):
            self.assert_told(("refused", "count", many, 0), certificates=self.certificates[:many])
        for more in (1, 2, 100):
            self.assert_told(("refused", "count", 6 + more, 0), certificates=self.certificates + [[]] * more)
        # The certificates are not looked at.
        self.assert_told(("refused", "count", 2, 0), certificates=[[None], [None]])
        self.assert_told(("refused", "count", 7, 0), certificates=[[None]] * 7)
        for many in (0, 2, 3):
            self.assert_told(("refused", "count", many, 0), self.line[:1], self.certificates[:many])

    def test_certificate_that_is_refused(self):
        for index, certificate in enumerate(self.certificates):
            many = len(certificate)
            key, row, left, right = certificate[-1]
            wrong = [([], "short", 0), (certificate[:-1], "short", many - 1), (certificate + [None], "long", many),
                     (certificate + certificate, "long", many), ([None] + certificate[1:], "form", 0),
                     (certificate[:-1] + [(key, row, left)], "form", many - 1),
                     (certificate[:-1] + [(key, row + (9,), left, right)], "digest", many - 1)]
            for given, word, number in wrong:
                certificates = self.certificates[:index] + [given] + self.certificates[index + 1:]
                self.assert_told(("refused", word, index, number), certificates=certificates)
                # The first certificate that is refused counts.
                self.assert_told(("refused", word, index, number),
                                 certificates=self.certificates[:index] + [given] + [[None]] * (5 - index))

    def test_sums(self):
        line = line_of(LENGTH_RULE, TABLES)
        certificates = certificates_of(LENGTH_RULE, TABLES, "fig")
        for index, certificate in enumerate(certificates):
            key, row, left, right = certificate[-1]
            given = certificate[:-1] + [(key, row, (left[0], left[1], (5, 0, 0)), right)]
            self.assert_told(("refused", "sums", index, len(certificate) - 1), line,
                             certificates[:index] + [given] + certificates[index + 1:], LENGTH_RULE)

    def test_certificates_exchanged(self):
        # Those of the tables without fig open the same keys, but the tables differ.
        for first in range(6):
            for second in range(first + 1, 6):
                given = list(self.certificates)
                given[first], given[second] = given[second], given[first]
                self.assert_told(("refused", "digest", first, 0), certificates=given)

    def test_certificates_for_another_key(self):
        certificates = certificates_of(ref.RULE, TABLES, "kiwi")
        self.assert_told(("refused", "short", 0, 2), certificates=certificates)

    def test_empty_tables(self):
        line = line_of(ref.RULE, [[], []])
        self.assert_told(("answer", [None, None]), line, [[], []])
        self.assert_told(("refused", "long", 1, 0), line, [[], [None]])
        self.assert_told(("refused", "long", 0, 0), line, [[None], [None]])

    def test_order_of_the_refusals(self):
        self.assert_told(("refused", "path", 0, 0), self.line[::-1], [[None]] * 3)
        self.assert_told(("refused", "count", 5, 0), self.line, [[None]] * 5)
        self.assert_told(("refused", "form", 0, 0), self.line, [[None]] * 6)

    def test_versions_of_a_store(self):
        version = first_version(head_of(ref.RULE, TABLES[0]))
        line = [version]
        for table in TABLES[1:]:
            version = next_version(ref.RULE, version, head_of(ref.RULE, table))
            line.append(version)
        self.assert_told(("answer", FIG_ROWS), line)


class PromiseTest(unittest.TestCase):

    def test_small_moduli(self):
        # Point 23 for each certificate: it gives the right row, or there is a clash.
        source = random.Random(61)
        wrong = 0
        for _ in range(300):
            rule = (source.randint(1, 20), source.randint(2, 7))
            tables = [ref.random_table(source, source.randint(1, 7), source.choice([0, 1, 100]))]
            for _ in range(2):
                tables.append(changed_table(tables[-1], ref.random_change(source, tables[-1])))
            key = ref.random_key(source, tables[0])
            keys = [one for one, _ in tables[0]] + [key, "bb", "ccc"]
            rows, honest = certified_history(rule, tables, key)
            try:
                forged = [self.forged(source, rule, table, key, keys) for table in tables]
            except ref.NoForgery:
                continue
            line = line_of(rule, tables)
            told = read_history(rule, line, key, forged)
            self.assertEqual(told, ("answer", [read(rule, version[1], ("get", key), certificate)[1]
                                               for version, certificate in zip(line, forged)]))
            for index, row in enumerate(told[1]):
                if row != rows[index]:
                    wrong += 1
                    self.assertIsNotNone(clash(rule, honest[index], forged[index]))
        self.assertGreater(wrong, 50)

    def forged(self, source, rule, table, key, keys):
        """A certificate that is taken."""
        forger = ref.Forger(rule, source.random(), keys, ref.query_certificate(rule, table, ("get", key)))
        ref.WordByWord(rule, forger).query(head_of(rule, table), ("get", key))
        return forger.certificate

    def test_paths_with_equal_digests(self):
        # By this rule all versions have the same digest, so that each head may stand on the path.
        heads = [head_of(LENGTH_RULE, table) for table in TABLES]
        line = ref.line_of(LENGTH_RULE, heads[:1] + heads[3:5])
        certificates = [certificates_of(LENGTH_RULE, TABLES, "fig")[number] for number in (0, 3, 4)]
        self.assertEqual(read_history(LENGTH_RULE, line, "fig", certificates), ("answer", [(7,), None, (1, 2)]))
        given = [line[0], (1, heads[4], line[1][2]), line[2]]
        self.assertEqual(read_history(LENGTH_RULE, given, "fig", [certificates[0], certificates[2], certificates[2]]),
                         ("answer", [(7,), (1, 2), (1, 2)]))


class TurnsTest(ref.KeepingTest):

    def assert_turns(self, rows, expected):
        with self.subTest(rows=rows):
            found = self.kept(turns, rows)
            self.assertEqual(found, expected)
            self.assertIs(type(found), list)

    def test_no_rows_and_one_row(self):
        self.assert_turns([], [])
        self.assert_turns([(1,)], [])
        self.assert_turns([None], [])

    def test_equal_rows(self):
        self.assert_turns([(1,), (1,)], [])
        self.assert_turns([None, None], [])
        self.assert_turns([(1, 2, 3)] * 20, [])

    def test_different_rows(self):
        self.assert_turns([(1,), (2,)], [1])
        self.assert_turns([(1,), (2,), (1,)], [1, 2])
        self.assert_turns([(1,), (1,), (2,), (2,), (3,)], [2, 4])
        self.assert_turns([(number,) for number in range(20)], list(range(1, 20)))

    def test_none(self):
        self.assert_turns([None, (0,)], [1])
        self.assert_turns([(0,), None], [1])
        self.assert_turns([None, None, (0,), None, (0,), (0,)], [2, 3, 4])
        self.assert_turns(FIG_ROWS, [1, 2, 4])

    def test_rows_with_another_length(self):
        self.assert_turns([(1,), (1, 0), (1, 0, 0), (1, 0, 0), (1,)], [1, 2, 4])


if __name__ == "__main__":
    unittest.main()
