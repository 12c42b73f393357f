"""Tests of the readers' refusals (point 21): each word, in the order of the words, with the number of the entry."""

import random
import unittest

import reference as ref
from rightrows.reading import (answered, certified_change, certified_differences, certified_join, read, read_change,
                               read_differences, read_join)
from rightrows.trees import head_of

LAST = "zzzzzzzzz"
# By such a rule a digest is the number of integers in the encoding, so that
# entries whose keys and rows have the same lengths have the same digest.
LENGTH_RULE = (10 ** 9, 10 ** 9)
LINK = (5, 1, (1, 1, 1))
NOT_NUMBERS = (True, False, -1, None, "", "5", (), (1,))
NOT_LINKS = (None, True, 5, -5, "link", (), (5,), (5, 1), LINK + (0,), (LINK,), (5, 1, 1), (5, 1, None),
             (5, 1, ()), (5, 1, (1, 1)), (5, 1, (1, 1, 1, 1)), (5, 1, "111"), ((1, 1, 1), 1, 5))
NOT_KEYS = ("", "abcdefghi", "A", "Date", "da-te", "date ", "\u00e4", "\u0661", 5, 0, True, None, (), ("date",))
NOT_ROWS = ((), (1, 1, 1, 1), (65536,), (1, 65536), (10 ** 30,), (-1,), (1, -1), (True,), (1, False), (None,), ("1",),
            ("",), ((1,),), None, True, 1, 0, "111", "date")


def wrong_links():
    links = list(NOT_LINKS)
    for wrong in NOT_NUMBERS:
        links.extend([(wrong, 1, (1, 1, 1)), (5, wrong, (1, 1, 1)), (5, 1, (wrong, 1, 1)), (5, 1, (1, wrong, 1)),
                      (5, 1, (1, 1, wrong))])
    return links


def no_entries(entry):
    """Values that are no entries: each place of an entry with each thing that does not belong there."""
    key, row, left, right = entry
    values = [None, True, False, 0, 1, -1, "", "date", (), (key,), (key, row), (key, row, left),
              (key, row, left, right, 0), entry + entry, (entry,), (row, key, left, right), (key, left, row, right), (left, right, key, row)]
    values.extend([(wrong, row, left, right) for wrong in NOT_KEYS])
    values.extend([(key, wrong, left, right) for wrong in NOT_ROWS])
    values.extend([(key, row, wrong, right) for wrong in wrong_links()])
    values.extend([(key, row, left, wrong) for wrong in wrong_links()])
    return values


def reads(rule, first=ref.FRUIT, second=ref.OTHER):
    """For each kind of walk a name, a reader that takes a certificate only, the right certificate and the answer."""
    heads = head_of(rule, first), head_of(rule, second)
    found = []
    for query in (("get", "pear"), ("range", "e", "m"), ("next", "date", 3), ("count", "e", LAST),
                  ("sum", 1, "lime", LAST), ("place", "melon"), ("at", 4)):
        expected, certificate = answered(rule, first, query)
        found.append((query, lambda given, query=query: read(rule, heads[0], query, given), certificate,
                      ("answer", expected)))
    for change in (("put", "melon", (1,)), ("put", "wren", (1,)), ("remove", "date"), ("remove", "melon")):
        head, certificate = certified_change(rule, first, change)
        found.append((change, lambda given, change=change: read_change(rule, heads[0], change, given), certificate,
                      ("head", head)))
    rows, certificate = certified_join(rule, first, second, "e", LAST)
    found.append(("join", lambda given: read_join(rule, *heads, ("e", LAST), given), certificate, ("answer", rows)))
    changes, certificate = certified_differences(rule, first, second)
    found.append(("differences", lambda given: read_differences(rule, *heads, given), certificate,
                  ("answer", changes)))
    return found


class RefusalCase(ref.KeepingTest):

    def assert_refused(self, reader, certificate, word, number):
        with self.subTest(certificate=certificate):
            told = self.kept(reader, certificate)
            self.assertEqual(told, ("refused", word, number))
            self.assertIs(type(told), tuple)


class WrongCertificatesTest(RefusalCase):

    def test_right_certificates_are_taken(self):
        for name, reader, certificate, expected in reads(ref.RULE):
            with self.subTest(name=name):
                self.assertGreaterEqual(len(certificate), 3)
                self.assertEqual(self.kept(reader, certificate), expected)

    def test_no_entries_at_all(self):
        for _, reader, _, _ in reads(ref.RULE):
            self.assert_refused(reader, [], "short", 0)

    def test_end_left_out(self):
        for _, reader, certificate, _ in reads(ref.RULE):
            for number in range(len(certificate)):
                self.assert_refused(reader, certificate[:number], "short", number)

    def test_one_entry_left_out(self):
        for _, reader, certificate, _ in reads(ref.RULE):
            for number in range(len(certificate) - 1):
                self.assert_refused(reader, certificate[:number] + certificate[number + 1:], "digest", number)

    def test_one_entry_too_many(self):
        other = ("m", (1,), LINK, LINK)
        for _, reader, certificate, _ in reads(ref.RULE):
            for number in range(len(certificate)):
                self.assert_refused(reader, certificate[:number] + [other] + certificate[number:], "digest", number)
            self.assert_refused(reader, certificate + [other], "long", len(certificate))
            self.assert_refused(reader, certificate + certificate, "long", len(certificate))

    def test_whatever_is_left_at_the_end(self):
        for _, reader, certificate, _ in reads(ref.RULE):
            for left in (None, True, 5, -5, "", (), certificate[0]):
                self.assert_refused(reader, certificate + [left], "long", len(certificate))
                self.assert_refused(reader, certificate + [left, left], "long", len(certificate))

    def test_two_entries_exchanged(self):
        for _, reader, certificate, _ in reads(ref.RULE):
            for first in range(len(certificate)):
                for second in range(first + 1, len(certificate)):
                    given = list(certificate)
                    given[first], given[second] = given[second], given[first]
                    self.assert_refused(reader, given, "digest", first)

    def test_one_entry_doubled(self):
        for _, reader, certificate, _ in reads(ref.RULE):
            for number in range(len(certificate)):
                given = certificate[:number + 1] + certificate[number:]
                word = "digest" if number + 1 < len(certificate) else "long"
                self.assert_refused(reader, given, word, number + 1)

    def test_certificate_of_another_table(self):
        changed = [[(key, row[:-1] + (row[-1] ^ 1,)) for key, row in table] for table in (ref.FRUIT, ref.OTHER)]
        others = reads(ref.RULE, *changed)
        for (_, reader, certificate, _), (_, _, other, _) in zip(reads(ref.RULE), others):
            self.assert_refused(reader, other, "digest", 0)
            for number in range(len(certificate)):
                self.assert_refused(reader, certificate[:number] + other[-1:] + certificate[number + 1:], "digest",
                                    number)

    def test_another_key_row_or_link(self):
        for _, reader, certificate, _ in reads(ref.RULE):
            for number, (key, row, left, right) in enumerate(certificate):
                links = [(left[0] + 1, left[1], left[2]), (left[0], left[1] + 1, left[2]),
                         (left[0], left[1], (left[2][0] + 1,) + left[2][1:])]
                entries = [(key[:-1] + "0", row, left, right), (key + "0", row, left, right),
                           (key, (row[0] ^ 1,) + row[1:], left, right), (key, row[:-1] + (row[-1] ^ 1,), left, right)]
                entries.extend([(key, row, link, right) for link in links])
                entries.extend([(key, row, left, link) for link in links if link != right])
                if left != right:
                    entries.append((key, row, right, left))
                for entry in entries:
                    self.assert_refused(reader, certificate[:number] + [entry] + certificate[number + 1:], "digest",
                                        number)

    def test_rows_with_a_zero_more_or_less(self):
        table = [("a", (3,)), ("b", (4, 0))]
        empty = ref.link(ref.RULE, ())
        left = ref.link(ref.RULE, tuple(table[:1]))
        head = head_of(ref.RULE, table)
        for row in ((4,), (4, 0, 0)):
            self.assertEqual(read(ref.RULE, head, ("get", "b"), [("b", row, left, empty)]), ("refused", "digest", 0))


class FormTest(RefusalCase):

    def test_values_that_are_no_entries(self):
        for rule in (ref.RULE, (1, 2)):
            for _, reader, certificate, _ in reads(rule):
                for number, entry in enumerate(certificate):
                    for value in no_entries(entry)[number::len(certificate)]:
                        self.assert_refused(reader, certificate[:number] + [value] + certificate[number + 1:], "form",
                                            number)

    def test_all_of_them_at_each_place(self):
        head = head_of(LENGTH_RULE, ref.FRUIT)
        certificate = ref.query_certificate(LENGTH_RULE, ref.FRUIT, ("get", "fig"))
        for number in range(3):
            for value in no_entries(certificate[number]):
                given = certificate[:number] + [value] + certificate[number + 1:]
                self.assert_refused(lambda one: read(LENGTH_RULE, head, ("get", "fig"), one), given, "form", number)

    def test_true_and_false_are_not_taken_for_1_and_0(self):
        # The digests are the same, and the entries are even equal for Python.
        table = [("a", (1, 0))]
        entry = ref.query_certificate(ref.RULE, table, ("get", "a"))[0]
        key, row, left, right = entry
        wrong = [(key, (True, 0), left, right), (key, (1, False), left, right),
                 (key, row, (left[0], False, left[2]), right), (key, row, left, (right[0], False, right[2]))]
        for place in range(3):
            sums = tuple(False if column == place else 0 for column in range(3))
            wrong.extend([(key, row, left[:2] + (sums,), right), (key, row, left, right[:2] + (sums,))])
        for value in wrong:
            self.assertEqual(value, entry)
            self.assert_refused(lambda given: read(ref.RULE, head_of(ref.RULE, table), ("get", "a"), given), [value],
                                "form", 0)

    def test_true_as_a_digest(self):
        rule = (1, 2)
        tables = [[("a", (number,))] for number in range(4)]
        entries = [ref.query_certificate(rule, table, ("get", "a"))[0] for table in tables]
        for table, (key, row, left, right) in zip(tables, entries):
            value = (key, row, (bool(left[0]), 0, (0, 0, 0)), right)
            self.assert_refused(lambda given, table=table: read(rule, head_of(rule, table), ("get", "a"), given),
                                [value], "form", 0)

    def test_deeply_nested_values(self):
        value = ()
        for _ in range(5000):
            value = (value, value)
        head = head_of(ref.RULE, ref.FRUIT)
        for wrong in (value, ("date", value, value, value), ("date", (4,), (5, 1, value), value)):
            self.assertEqual(read(ref.RULE, head, ("get", "date"), [wrong]), ("refused", "form", 0))

    def test_great_numbers_have_the_form_of_a_link(self):
        great = 10 ** 400
        head = head_of(ref.RULE, ref.FRUIT)
        entry = ("date", (65535, 0, 65535), (great, great, (great, great, great)), (0, 0, (0, 0, 0)))
        self.assert_refused(lambda given: read(ref.RULE, head, ("get", "date"), given), [entry], "digest", 0)


class OrderOfWordsTest(RefusalCase):

    def test_form_before_digest_and_sums(self):
        head = head_of(LENGTH_RULE, ref.FRUIT)
        entry = ("Date", (1, 2, 3), LINK, LINK)
        self.assert_refused(lambda given: read(LENGTH_RULE, head, ("get", "fig"), given), [entry], "form", 0)

    def test_digest_before_sums(self):
        # The keys have other lengths, and the counts and sums are wrong, too.
        head = head_of(LENGTH_RULE, ref.FRUIT)
        for entry in (("dates", (4,), LINK, LINK), ("date", (4, 0), LINK, LINK), ("dat", (4,), LINK, LINK)):
            self.assert_refused(lambda given: read(LENGTH_RULE, head, ("get", "fig"), given), [entry], "digest", 0)

    def test_sums(self):
        head = head_of(LENGTH_RULE, ref.FRUIT)
        key, row, left, right = ref.query_certificate(LENGTH_RULE, ref.FRUIT, ("get", "date"))[0]
        self.assertEqual(left[:2], (51, 1))
        wrong = [(key, (5,), left, right)]
        for place in range(3):
            more = tuple(number + (column == place) for column, number in enumerate(left[2]))
            less = tuple(number - (column == place) for column, number in enumerate(right[2]))
            wrong.extend([(key, row, (left[0], left[1], more), right), (key, row, left, (right[0], right[1], less))])
        for many in (0, 2, 5, 10 ** 9):
            wrong.extend([(key, row, (left[0], many, left[2]), right),
                          (key, row, left, (right[0], many + 4, right[2]))])
        wrong = [entry for entry in wrong if entry != (key, row, left, right)]
        for entry in wrong:
            self.assert_refused(lambda given: read(LENGTH_RULE, head, ("get", "date"), given), [entry], "sums", 0)

    def test_sums_at_a_later_entry(self):
        for name, reader, certificate, _ in reads(LENGTH_RULE):
            for number, (key, row, left, right) in enumerate(certificate):
                entry = (key, row, (left[0], left[1] + 1, left[2]), right)
                self.assert_refused(reader, certificate[:number] + [entry] + certificate[number + 1:], "sums", number)
                entry = (key, row, left, (right[0], right[1], (right[2][0], right[2][1], right[2][2] + 1)))
                self.assert_refused(reader, certificate[:number] + [entry], "sums", number)

    def test_first_wrong_entry_counts(self):
        for _, reader, certificate, _ in reads(LENGTH_RULE):
            for number in range(1, len(certificate)):
                given = list(certificate)
                given[number] = None
                given[number - 1] = ("toolong1", (1, 2, 3), LINK, LINK)
                self.assert_refused(reader, given, "digest", number - 1)


class EmptyHeadTest(RefusalCase):

    def test_nothing_is_opened(self):
        for rule in (ref.RULE, (1, 2)):
            for name, reader, certificate, expected in reads(rule, [], []):
                with self.subTest(name=name):
                    self.assertEqual(certificate, [])
                    self.assertEqual(reader([]), expected)
                    self.assertEqual(reader([None]), ("refused", "long", 0))
                    self.assertEqual(reader([("a", (1,), LINK, LINK)]), ("refused", "long", 0))

    def test_walks_that_open_nothing(self):
        head = head_of(ref.RULE, ref.FRUIT)
        for query, expected in ((("next", "", 0), []), (("at", 7), None), (("at", 99999), None)):
            self.assertEqual(read(ref.RULE, head, query, []), ("answer", expected))
            self.assertEqual(read(ref.RULE, head, query, ref.fruit_entries(ref.RULE, "date")), ("refused", "long", 0))
        self.assertEqual(read_differences(ref.RULE, head, head, []), ("answer", []))
        self.assertEqual(read_differences(ref.RULE, head, head, [None]), ("refused", "long", 0))
        empty = head_of(ref.RULE, [])
        for heads in ((head, empty), (empty, head)):
            self.assertEqual(read_join(ref.RULE, *heads, ("", LAST), []), ("answer", []))
            self.assertEqual(read_join(ref.RULE, *heads, ("", LAST), [5]), ("refused", "long", 0))


class ManyRefusalsTest(RefusalCase):

    def test_as_the_reader_that_follows_the_document(self):
        source = random.Random(12)
        words = {}
        for _ in range(3000):
            rule = (source.randint(1, 9), source.randint(2, 9))
            table = ref.random_table(source, source.randint(1, 8), source.choice([1, 100]))
            other = ref.random_table(source, source.randint(1, 8), source.choice([1, 100]))
            head = head_of(rule, table)
            query = ref.random_query(source, table)
            given = self.spoilt(source, answered(rule, table, query)[1], answered(rule, other, query)[1])
            told = read(rule, head, query, given)
            self.assertEqual(told, ref.word_by_word(rule, given, lambda walk: walk.query(head, query)))
            words[told[1] if told[0] == "refused" else told[0]] = True
        self.assertEqual(sorted(words), ["answer", "digest", "form", "long", "short", "sums"])

    def spoilt(self, source, certificate, other):
        """A certificate in which something is changed."""
        given = list(certificate)
        for _ in range(source.randint(1, 2)):
            place = source.randint(0, len(given))
            kind = source.randrange(5)
            if kind == 0:
                given.insert(place, source.choice(other + certificate + [None]))
            elif kind == 1:
                del given[place:place + 1]
            elif kind == 2 and other:
                given[place:place + 1] = [source.choice(other)]
            elif kind == 3 and place < len(given) and ref.is_entry(given[place]):
                given[place] = source.choice(no_entries(given[place]))
            elif place < len(given) and ref.is_entry(given[place]):
                key, row, left, right = given[place]
                given[place] = (key, row, (left[0], left[1], (source.randint(0, 3),) + left[2][1:]), right)
        return given


if __name__ == "__main__":
    unittest.main()
