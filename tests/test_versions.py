"""Tests of rightrows.versions: versions, paths (point 26) and clashes of paths (point 27)."""

import random
import unittest

import reference as ref
from rightrows import versions
from rightrows.texts import digest
from rightrows.trees import head_of
from rightrows.versions import clash_of_paths, first_version, follows, next_version

HEAD = (587, 0, (0, 0, 0))
HEADS = [head_of(ref.RULE, ref.FRUIT[:number]) for number in range(6)]
# By this rule a digest is the number of integers in the encoding, which is the
# same for all versions.
LENGTH_RULE = (10 ** 9, 10 ** 9)


class VersionsTest(ref.KeepingTest):

    def test_first_version(self):
        for head in HEADS + [HEAD]:
            version = self.kept(first_version, head)
            self.assertEqual(version, (0, head, 0))
            self.assertIs(type(version), tuple)

    def test_next_version_told_one_after_the_other(self):
        # The encoding of ("version", 0, HEAD, 0): 2 and 4; 1, 7 and 774 for the name; 0 and 0; 14 integers with the
        # sum 597 for the head; 0 and 0. These are 29 integers, and with the base 1 each adds 1 more.
        self.assertEqual(sum(ord(sign) for sign in "version"), 774)
        self.assertEqual(self.kept(next_version, (1, 10 ** 9), (0, HEAD, 0), HEADS[1]),
                         (1, HEADS[1], 1 + (2 + 4 + 1 + 7 + 774 + 597) + 29 + 29))

    def test_next_versions(self):
        for rule in (ref.RULE, (1, 2), (10 ** 18, 10 ** 18 - 1)):
            expected = ref.line_of(rule, HEADS)
            version = first_version(HEADS[0])
            for number, head in enumerate(HEADS[1:], start=1):
                version = self.kept(next_version, rule, version, head)
                self.assertEqual(version, expected[number])
                self.assertIs(type(version), tuple)

    def test_next_version_with_the_same_head(self):
        version = first_version(HEAD)
        self.assertEqual(next_version(ref.RULE, version, HEAD), (1, HEAD, digest(ref.RULE, ("version", 0, HEAD, 0))))

    def test_next_version_of_any_version(self):
        version = (17, HEADS[2], 12345)
        self.assertEqual(next_version(ref.RULE, version, HEAD), (18, HEAD, digest(ref.RULE, ("version",) + version)))

    def test_defined_in_their_file(self):
        for function in (first_version, next_version, follows, clash_of_paths):
            self.assertEqual(function.__module__, versions.__name__)


class FollowsTest(ref.KeepingTest):

    def setUp(self):
        self.line = ref.line_of(ref.RULE, HEADS)

    def assert_follows(self, earlier, later, path, expected):
        with self.subTest(path=path):
            self.assertIs(self.kept(follows, ref.RULE, earlier, later, path), expected)

    def test_paths_of_no_one_and_several_versions(self):
        for first in range(6):
            for last in range(first + 1, 6):
                self.assert_follows(self.line[first], self.line[last], self.line[first + 1:last], True)

    def test_version_left_out(self):
        for number in range(1, 5):
            path = self.line[1:5]
            del path[number - 1]
            self.assert_follows(self.line[0], self.line[5], path, False)
        self.assert_follows(self.line[0], self.line[2], [], False)

    def test_version_too_many(self):
        self.assert_follows(self.line[0], self.line[1], [self.line[0]], False)
        self.assert_follows(self.line[0], self.line[1], [self.line[1]], False)
        self.assert_follows(self.line[0], self.line[2], [self.line[1], self.line[1]], False)
        self.assert_follows(self.line[0], self.line[5], self.line[0:5], False)
        self.assert_follows(self.line[0], self.line[5], self.line[1:6], False)

    def test_versions_exchanged(self):
        for first in range(4):
            for second in range(first + 1, 4):
                path = self.line[1:5]
                path[first], path[second] = path[second], path[first]
                self.assert_follows(self.line[0], self.line[5], path, False)
        self.assert_follows(self.line[0], self.line[5], self.line[4:0:-1], False)

    def test_same_or_lower_version(self):
        for number in range(6):
            self.assert_follows(self.line[number], self.line[number], [], False)
        self.assert_follows(self.line[1], self.line[0], [], False)
        self.assert_follows(self.line[3], self.line[0], [self.line[2], self.line[1]], False)

    def changed(self, version):
        number, head, before = version
        count, sums = head[1], head[2]
        heads = [(head[0] + 1, count, sums), (head[0], count + 1, sums), (head[0], count, (sums[0] + 1,) + sums[1:]),
                 HEADS[(number + 1) % 6]]
        return ([(number + 1, head, before), (number + 20, head, before), (number, head, before + 1),
                 (number, head, 0 if before else 1)] + [(number, other, before) for other in heads])

    def test_changed_version_on_the_path(self):
        for number in range(1, 5):
            for version in self.changed(self.line[number]):
                path = self.line[1:5]
                path[number - 1] = version
                self.assert_follows(self.line[0], self.line[5], path, False)

    def test_changed_earlier_version(self):
        for version in self.changed(self.line[2]):
            self.assert_follows(version, self.line[5], self.line[3:5], False)
            self.assert_follows(version, self.line[3], [], False)

    def test_changed_later_version(self):
        number, head, before = self.line[5]
        for version in ((number + 1, head, before), (number - 1, head, before), (number, head, before + 1),
                        (number, head, 0)):
            self.assert_follows(self.line[0], version, self.line[1:5], False)
            self.assert_follows(self.line[4], version, [], False)
        # The head of the last version is not told by the path.
        self.assert_follows(self.line[0], (number, HEADS[0], before), self.line[1:5], True)

    def test_path_of_another_line(self):
        other = ref.line_of(ref.RULE, [HEADS[0]] + HEADS[:5])
        self.assert_follows(self.line[0], self.line[5], other[1:5], False)
        self.assert_follows(other[0], other[5], other[1:5], True)
        self.assert_follows(other[0], self.line[5], other[1:5], False)

    def test_numbers_need_not_begin_with_0(self):
        earlier = (7, HEADS[1], 999)
        middle = (8, HEADS[2], digest(ref.RULE, ("version",) + earlier))
        later = (9, HEADS[3], digest(ref.RULE, ("version",) + middle))
        self.assert_follows(earlier, later, [middle], True)
        self.assert_follows(earlier, middle, [], True)

    def test_equal_digests(self):
        line = ref.line_of(LENGTH_RULE, HEADS)
        other = list(line)
        other[2] = (2, HEADS[5], line[2][2])
        self.assertIs(follows(LENGTH_RULE, line[0], line[5], other[1:5]), True)
        other[2] = (3, HEADS[2], line[2][2])
        self.assertIs(follows(LENGTH_RULE, line[0], line[5], other[1:5]), False)


class ClashOfPathsTest(ref.KeepingTest):

    def assert_clash(self, honest, given, expected, rule=LENGTH_RULE):
        with self.subTest(given=given):
            found = self.kept(clash_of_paths, rule, honest, given)
            self.assertEqual(found, expected)
            if expected is not None:
                self.assertIs(type(found), tuple)

    def test_equal_lists(self):
        line = ref.line_of(LENGTH_RULE, HEADS)
        for number in range(7):
            self.assert_clash(line[number:], line[number:], None)

    def test_one_list_is_only_longer(self):
        line = ref.line_of(LENGTH_RULE, HEADS)
        for number in range(1, 7):
            self.assert_clash(line, line[number:], None)
            self.assert_clash(line[number:], line, None)

    def test_empty_lists(self):
        line = ref.line_of(LENGTH_RULE, HEADS)
        self.assert_clash([], [], None)
        self.assert_clash(line, [], None)
        self.assert_clash([], line, None)

    def test_one_different_version(self):
        line = ref.line_of(LENGTH_RULE, HEADS)
        for number in range(5):
            other = (number, HEADS[5], line[number][2])
            given = line[:number] + [other] + line[number + 1:]
            self.assert_clash(line, given, (line[number], other))
            self.assert_clash(given, line, (other, line[number]))

    def test_last_of_several_different_versions(self):
        line = ref.line_of(LENGTH_RULE, HEADS)
        other = ref.line_of(LENGTH_RULE, HEADS[::-1])
        for number in range(1, 6):
            given = other[:number] + line[number:]
            self.assert_clash(line, given, (line[number - 1], other[number - 1]))

    def test_lists_of_different_lengths(self):
        line = ref.line_of(LENGTH_RULE, HEADS)
        other = (3, HEADS[5], line[3][2])
        given = line[:3] + [other] + line[4:]
        for first in range(4):
            for second in range(4):
                self.assert_clash(line[first:], given[second:], (line[3], other))
        # The places are counted from the end: nothing stands against the version before the shorter list.
        for first in range(4):
            self.assert_clash(line[first:], given[4:], None)
            self.assert_clash(line[4:], given[first:], None)
        self.assert_clash(line[1:], [line[0], other] + line[4:], (line[3], other))

    def test_versions_with_other_numbers(self):
        line = ref.line_of(LENGTH_RULE, HEADS)
        shifted = [(number + 7, head, before) for number, head, before in line]
        self.assert_clash(line, shifted[:3] + line[3:], (line[2], shifted[2]))

    def test_different_versions_with_different_digests(self):
        line = ref.line_of(ref.RULE, HEADS)
        for number in range(6):
            given = line[:number] + [(number, HEADS[number], line[number][2] + 1)] + line[number + 1:]
            self.assert_clash(line, given, None, ref.RULE)
        self.assert_clash(line, ref.line_of(ref.RULE, HEADS[::-1]), None, ref.RULE)

    def test_only_the_last_difference_counts(self):
        rule = (1, 3)
        line = ref.line_of(rule, HEADS)

        def other(number, is_equal):
            """Another version than that of the line, with the same or another digest."""
            changed = [(number, line[number][1], line[number][2] + more) for more in (1, 2, 3)]
            digests = [digest(rule, ("version",) + version) for version in [line[number]] + changed]
            return next(version for version, one in zip(changed, digests[1:]) if (one == digests[0]) is is_equal)

        given = list(line)
        given[1], given[3] = other(1, True), other(3, False)
        self.assert_clash(line, given, None, rule)
        given[1], given[3] = other(1, False), other(3, True)
        self.assert_clash(line, given, (line[3], given[3]), rule)
        given[1], given[3] = other(1, True), line[3]
        self.assert_clash(line, given, (line[1], given[1]), rule)

    def test_small_moduli(self):
        source = random.Random(16)
        many = {True: 0, False: 0}
        for _ in range(500):
            rule = (source.randint(1, 20), source.randint(2, 7))
            line = ref.line_of(rule, HEADS)
            given = ref.line_of(rule, [source.choice(HEADS) for _ in range(source.randint(1, 5))] + HEADS[5:])
            places = [place for place in range(1, min(len(line), len(given)) + 1) if line[-place] != given[-place]]
            expected = (line[-places[0]], given[-places[0]]) if places else None
            if expected and digest(rule, ("version",) + expected[0]) != digest(rule, ("version",) + expected[1]):
                expected = None
            self.assert_clash(line, given, expected, rule)
            many[expected is None] += 1
        self.assertGreater(min(many.values()), 50)

    def test_promise_of_paths(self):
        # Point 27: of two lines that end with the same version, the last different versions have the same digest.
        source = random.Random(17)
        found = 0
        for _ in range(2000):
            rule = (source.randint(1, 20), source.randint(2, 4))
            line = ref.line_of(rule, HEADS[:4])
            other = ref.line_of(rule, [source.choice(HEADS) for _ in range(3)] + HEADS[3:4])
            if other != line and other[-1] == line[-1]:
                found += 1
                self.assertIs(follows(rule, other[0], line[-1], other[1:3]), True)
                self.assertIsNotNone(clash_of_paths(rule, line, other))
        self.assertGreater(found, 50)


if __name__ == "__main__":
    unittest.main()
