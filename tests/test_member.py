"""Tests of rightrows.member: what a member takes, reads and finds when it meets another one (points 32 and 33)."""

import copy
import random
import unittest

import reference as ref
from rightrows import member as member_file
from rightrows.clashes import clash, clash_of_tables
from rightrows.meetings import is_double
from rightrows.member import Member
from rightrows.store import Store
from rightrows.tables import answer, changed_table, changes_between
from rightrows.trees import head_of
from rightrows.versions import follows

LAST = "zzzzzzzzz"
SECRET = 77
TABLES = [ref.FRUIT]
for one_change in (("put", "fig", (1, 2)), ("remove", "date"), ("put", "wren", (3,)), ("remove", "nothing"),
                   ("put", "apple", (6,)), ("remove", "plum"), ("put", "date", (4,))):
    TABLES.append(changed_table(TABLES[-1], one_change))
HEADS = [head_of(ref.RULE, table) for table in TABLES]
CARDS = ref.cards(ref.RULE, SECRET, 20)
LINE = ref.sealed_line(ref.RULE, SECRET, HEADS)
# The same up to number 2, then other tables, each version with a right seal.
OTHER_LINE = ref.sealed_line(ref.RULE, SECRET, HEADS[:3] + HEADS[7:] + HEADS[5:7] + HEADS[:2])
# A line of another store, which seals with another secret.
FOREIGN_LINE = ref.sealed_line(ref.RULE, SECRET + 1, HEADS)


def path(line, earlier, later):
    return [version for version, _ in line[earlier + 1:later]]


def member_of(line, *numbers, cards=CARDS):
    """A member that has taken the sealed versions with some numbers."""
    member = Member(ref.RULE, cards, line[numbers[0]])
    for earlier, later in zip(numbers, numbers[1:]):
        assert member.follow(line[later], path(line, earlier, later)) is True
    return member


class FollowTest(ref.KeepingTest):

    def assert_follow(self, member, sealed, given_path, expected):
        """See whether a sealed version is taken, and that nothing changes where it is not."""
        before = member.taken()
        with self.subTest(sealed=sealed, path=given_path):
            self.assertIs(self.kept(member.follow, sealed, given_path), expected)
            self.assertEqual(member.taken(), before + [sealed] if expected else before)
            self.assertEqual(member.version(), sealed[0] if expected else before[-1][0])

    def test_first_sealed_version_is_not_looked_at(self):
        for sealed in (LINE[0], LINE[5], FOREIGN_LINE[3], (LINE[2][0], ()), (LINE[2][0], (1, 2, 3, 4)),
                       ((99, HEADS[1], 5), (0,))):
            member = self.kept(Member, ref.RULE, CARDS, sealed)
            self.assertEqual(member.version(), sealed[0])
            self.assertEqual(member.taken(), [sealed])
            self.assertIs(type(member.taken()), list)
        self.assertEqual(Member(ref.RULE, [], LINE[0]).version(), LINE[0][0])

    def test_next_versions(self):
        member = member_of(LINE, 0)
        for number in range(1, 8):
            self.assert_follow(member, LINE[number], [], True)
        self.assertEqual(member.taken(), LINE)

    def test_paths(self):
        for earlier in range(8):
            for later in range(earlier + 1, 8):
                self.assert_follow(member_of(LINE, earlier), LINE[later], path(LINE, earlier, later), True)
        member = member_of(LINE, 0, 3)
        self.assert_follow(member, LINE[7], path(LINE, 3, 7), True)
        self.assertEqual(member.taken(), [LINE[0], LINE[3], LINE[7]])

    def test_same_and_lower_numbers(self):
        member = member_of(LINE, 0, 2, 4)
        for line in (LINE, OTHER_LINE):
            for number in range(5):
                for given_path in ([], path(LINE, 0, number), path(LINE, number, 4), path(LINE, 4, 6)):
                    self.assert_follow(member, line[number], given_path, False)
        self.assertEqual(member.taken(), [LINE[0], LINE[2], LINE[4]])

    def test_same_version_once_more(self):
        for number in range(8):
            self.assert_follow(member_of(LINE, number), LINE[number], [], False)

    def test_no_card_for_the_number(self):
        for many in range(9):
            for number in range(1, 8):
                member = Member(ref.RULE, CARDS[:many], LINE[0])
                self.assert_follow(member, LINE[number], path(LINE, 0, number), many > number)

    def test_number_of_the_last_card_counted_from_the_end(self):
        line = [((-2, HEADS[0], 0), ())]
        version = (-1, HEADS[1], ref.digest(ref.RULE, ("version",) + line[0][0]))
        self.assertIs(follows(ref.RULE, line[0][0], version, []), True)
        member = Member(ref.RULE, CARDS[:3] + [ref.card(ref.RULE, SECRET, -1)], line[0])
        self.assert_follow(member, ref.sealed(ref.RULE, SECRET, version), [], False)

    def test_seal_that_does_not_fit(self):
        for number in range(1, 8):
            member = member_of(LINE, 0)
            version, given = LINE[number]
            wrong = [(), given[:3], given + (0,), given[::-1], LINE[number - 1][1], FOREIGN_LINE[number][1]]
            wrong.extend(given[:place] + (given[place] + 1,) + given[place + 1:] for place in range(4))
            for seal in wrong:
                self.assert_follow(member, (version, seal), path(LINE, 0, number), False)
            self.assert_follow(member, LINE[number], path(LINE, 0, number), True)

    def test_cards_of_another_store(self):
        member = Member(ref.RULE, ref.cards(ref.RULE, SECRET + 1, 20), LINE[0])
        self.assert_follow(member, LINE[1], [], False)
        self.assert_follow(member, FOREIGN_LINE[1], [], True)
        member = Member(ref.RULE, CARDS[1:], LINE[0])
        self.assert_follow(member, LINE[1], [], False)

    def test_wrong_paths(self):
        member = member_of(LINE, 1)
        right = path(LINE, 1, 6)
        wrong = [[], right[:-1], right[1:], right[:2] + right[3:], [LINE[1][0]] + right, right + [LINE[6][0]],
                 right + right[-1:], right[::-1], path(LINE, 0, 6), path(LINE, 1, 7), path(OTHER_LINE, 1, 6)]
        for place, (number, head, before) in enumerate(right):
            for version in ((number + 1, head, before), (number, HEADS[(number + 2) % 8], before),
                            (number, head, before + 1), (number, (head[0], head[1] + 1, head[2]), before)):
                wrong.append(right[:place] + [version] + right[place + 1:])
        for given_path in wrong:
            self.assert_follow(member, LINE[6], given_path, False)
        self.assert_follow(member, LINE[6], right, True)

    def test_path_that_is_too_long_for_the_next_version(self):
        for given_path in ([LINE[0][0]], [LINE[1][0]], [LINE[2][0]], path(LINE, 0, 3)):
            self.assert_follow(member_of(LINE, 0), LINE[1], given_path, False)

    def test_versions_of_another_line(self):
        # Both lines have right seals, but after number 2 they have parted.
        member = member_of(LINE, 0, 4)
        for number in range(5, 8):
            for line in (LINE, OTHER_LINE):
                self.assert_follow(member, OTHER_LINE[number], path(line, 4, number), False)
        for number in range(3, 8):
            self.assert_follow(member_of(LINE, 2), OTHER_LINE[number], path(OTHER_LINE, 2, number), True)

    def test_version_with_another_before(self):
        number, head, before = LINE[3][0]
        for wrong in (0, before + 1, LINE[2][0][2]):
            self.assert_follow(member_of(LINE, 2), ref.sealed(ref.RULE, SECRET, (number, head, wrong)), [], False)

    def test_last_head_is_told_by_the_seal_alone(self):
        number, _, before = LINE[3][0]
        other = ref.sealed(ref.RULE, SECRET, (number, HEADS[7], before))
        self.assert_follow(member_of(LINE, 2), (other[0], LINE[3][1]), [], False)
        self.assert_follow(member_of(LINE, 2), other, [], True)

    def test_number_of_the_last_taken_version_never_falls(self):
        source = random.Random(36)
        member = member_of(LINE, 0)
        taken = 0
        for _ in range(200):
            number, line = source.randrange(8), source.choice([LINE, OTHER_LINE])
            last = member.version()[0]
            done = member.follow(line[number], path(line, source.choice([last, last, 0]), number))
            self.assertEqual(member.version()[0], number if done else last)
            self.assertGreaterEqual(member.version()[0], last)
            taken += done
        self.assertEqual(len(member.taken()), taken + 1)

    def test_small_moduli(self):
        source = random.Random(37)
        many = {True: 0, False: 0}
        for _ in range(200):
            rule = (source.randint(1, 20), source.randint(2, 5))
            heads = [source.choice(HEADS) for _ in range(5)]
            line = ref.sealed_line(rule, SECRET, heads)
            cards = ref.cards(rule, SECRET, 5)
            version = (4, source.choice(HEADS), source.randint(0, rule[1]))
            given = tuple(source.choice([part, source.randint(0, rule[1])])
                          for part in ref.seal(rule, SECRET, 4, version))
            given_path = [(number, source.choice([head, HEADS[0]]), before)
                          for number, head, before in path(line, 1, 4)]
            steps = [line[1][0]] + given_path + [version]
            expected = ref.fits(rule, cards[4], 4, version, given) and all(
                later[0] == earlier[0] + 1 and later[2] == ref.digest(rule, ("version",) + earlier)
                for earlier, later in zip(steps, steps[1:]))
            self.assert_follow(Member(rule, cards, line[1]), (version, given), given_path, expected)
            many[expected] += 1
        self.assertGreater(min(many.values()), 10)


class ReadTest(ref.KeepingTest):

    QUERIES = (("get", "fig"), ("range", "b", "m"), ("next", "", 3), ("count", "e", LAST), ("sum", 1, "lime", LAST),
               ("place", "melon"), ("at", 4))

    def spoilt(self, certificate):
        """Wrong certificates, each with its refusal."""
        found = [(certificate[:-1], ("refused", "short", len(certificate) - 1)),
                 (certificate + [None], ("refused", "long", len(certificate))),
                 ([None] + certificate[1:], ("refused", "form", 0))]
        key, row, left, right = certificate[-1]
        found.append((certificate[:-1] + [(key, (row[0] ^ 1,) + row[1:], left, right)],
                      ("refused", "digest", len(certificate) - 1)))
        return found

    def test_queries_about_the_last_taken_version(self):
        member = member_of(LINE, 0)
        for number in range(8):
            if number:
                self.assertIs(member.follow(LINE[number], []), True)
            for query in self.QUERIES:
                certificate = ref.query_certificate(ref.RULE, TABLES[number], query)
                self.assertEqual(self.kept(member.read, query, certificate),
                                 ("answer", answer(TABLES[number], query)))
                for wrong, refusal in self.spoilt(certificate):
                    self.assertEqual(self.kept(member.read, query, wrong), refusal)

    def test_certificate_for_an_older_version(self):
        member = member_of(LINE, 0, 5)
        for number in (0, 4):
            certificate = ref.query_certificate(ref.RULE, TABLES[number], ("get", "fig"))
            self.assertEqual(member.read(("get", "fig"), certificate), ("refused", "digest", 0))

    def test_sums(self):
        # By this rule a digest is the number of integers in the encoding.
        rule = (10 ** 9, 10 ** 9)
        member = Member(rule, [], ref.sealed_line(rule, SECRET, [head_of(rule, ref.FRUIT)])[0])
        key, row, left, right = ref.query_certificate(rule, ref.FRUIT, ("get", "date"))[0]
        self.assertEqual(member.read(("get", "date"), [(key, (5,), left, right)]), ("refused", "sums", 0))

    def test_changes_since_taken_versions(self):
        member = member_of(LINE, 1, 2, 5, 7)
        for number in (1, 2, 5, 7):
            pairing = ref.Pairing(ref.RULE, TABLES[number], TABLES[7])
            pairing.differences()
            certificate = pairing.certificate
            told = self.kept(member.changes, number, certificate)
            self.assertEqual(told, ("answer", changes_between(TABLES[number], TABLES[7])))
            for wrong, refusal in self.spoilt(certificate) if certificate else []:
                self.assertEqual(self.kept(member.changes, number, wrong), refusal)

    def test_changes_since_the_last_taken_version_itself(self):
        for numbers in ((0,), (3,), (0, 2, 7)):
            member = member_of(LINE, *numbers)
            self.assertEqual(self.kept(member.changes, numbers[-1], []), ("answer", []))
            self.assertEqual(self.kept(member.changes, numbers[-1], [None]), ("refused", "long", 0))

    def test_changes_since_a_number_that_was_not_taken(self):
        member = member_of(LINE, 1, 2, 5)
        for number in (-1, 0, 3, 4, 6, 7, 20, 10 ** 30):
            for certificate in ([], [None], ref.query_certificate(ref.RULE, TABLES[5], ("get", "fig"))):
                self.assertIsNone(self.kept(member.changes, number, certificate))

    def test_changes_from_the_earlier_to_the_last_version(self):
        member = member_of(LINE, 0, 7)
        pairing = ref.Pairing(ref.RULE, TABLES[7], TABLES[0])
        pairing.differences()
        self.assertEqual(member.changes(0, pairing.certificate)[:2], ("refused", "digest"))

    def test_change(self):
        for number in (0, 3, 7):
            member = member_of(LINE, number)
            for change in (("put", "fig", (9,)), ("put", "melon", (1,)), ("remove", "kiwi"), ("remove", "nothing")):
                certificate = ref.change_certificate(ref.RULE, TABLES[number], change)
                head = head_of(ref.RULE, changed_table(TABLES[number], change))
                expected = (number + 1, head, ref.digest(ref.RULE, ("version",) + LINE[number][0]))
                version = self.kept(member.change, change, certificate)
                self.assertEqual(version, expected)
                self.assertIs(type(version), tuple)
                for wrong, _ in self.spoilt(certificate):
                    self.assertIsNone(self.kept(member.change, change, wrong))
                # The version is not taken.
                self.assertEqual(member.version(), LINE[number][0])
                self.assertEqual(member.taken(), [LINE[number]])

    def test_change_of_the_empty_table(self):
        member = Member(ref.RULE, [], ((0, head_of(ref.RULE, []), 0), ()))
        before = ref.digest(ref.RULE, ("version", 0, head_of(ref.RULE, []), 0))
        self.assertEqual(member.change(("put", "a", (1,)), []), (1, head_of(ref.RULE, [("a", (1,))]), before))
        self.assertEqual(member.change(("remove", "a"), []), (1, head_of(ref.RULE, []), before))
        self.assertIsNone(member.change(("remove", "a"), [None]))

    def test_version_of_a_change_is_that_of_the_store(self):
        store = Store(ref.RULE, SECRET, ref.FRUIT)
        member = Member(ref.RULE, store.cards(), store.sealed(0))
        for change in (("put", "wren", (1,)), ("remove", "date"), ("put", "date", (2, 3))):
            version = member.change(change, store.change(change))
            self.assertEqual(version, store.sealed(store.latest())[0])
            self.assertIs(member.follow(store.sealed(store.latest()), []), True)

    def test_promise_of_what_is_taken(self):
        # Point 23: with a small modulus wrong entries are taken; then there is a clash with the right certificate.
        source = random.Random(38)
        wrong = {"answer": 0, "changes": 0, "head": 0}
        for _ in range(300):
            rule = (source.randint(1, 20), source.randint(2, 5))
            tables = [ref.random_table(source, source.randint(1, 7), source.choice([0, 1, 100]))]
            change = ref.random_change(source, tables[0])
            tables.append(changed_table(tables[0], change))
            line = ref.sealed_line(rule, SECRET, [head_of(rule, table) for table in tables])
            member = Member(rule, ref.cards(rule, SECRET, 2), line[0])
            keys = [key for key, _ in tables[0]] + ["a", "bb"]
            honest = ref.change_certificate(rule, tables[0], change)
            given, told = self.forged(source, rule, keys, honest, lambda walk: walk.change(line[0][0][1], change))
            self.assertEqual(member.change(change, given),
                             (1, told[1], ref.digest(rule, ("version",) + line[0][0])))
            if told[1] != line[1][0][1]:
                wrong["head"] += 1
                self.assertIsNotNone(clash(rule, honest, given))
            self.assertIs(member.follow(line[1], []), True)
            query = ref.random_query(source, tables[1])
            honest = ref.query_certificate(rule, tables[1], query)
            given, told = self.forged(source, rule, keys, honest, lambda walk: walk.query(line[1][0][1], query))
            self.assertEqual(member.read(query, given), told)
            if told[1] != answer(tables[1], query):
                wrong["answer"] += 1
                self.assertIsNotNone(clash(rule, honest, given))
            pairing = ref.Pairing(rule, *tables)
            pairing.differences()
            given, told = self.forged(source, rule, keys, pairing.certificate,
                                      lambda walk: walk.differences(line[0][0][1], line[1][0][1]))
            self.assertEqual(member.changes(0, given), told)
            if told[1] != changes_between(*tables):
                wrong["changes"] += 1
                self.assertTrue(clash(rule, pairing.certificate, given) or clash_of_tables(rule, *tables))
        self.assertGreater(min(wrong.values()), 15)

    def forged(self, source, rule, keys, honest, walk):
        """A certificate that is taken, and what the reader that follows the document makes of it."""
        while True:
            forger = ref.Forger(rule, source.random(), keys, honest)
            try:
                return forger.certificate, walk(ref.WordByWord(rule, forger))
            except ref.NoForgery:
                pass


class MeetTest(ref.KeepingTest):

    def assert_meet(self, member, taken, expected):
        with self.subTest(taken=taken):
            before = member.taken()
            found = self.kept(member.meet, taken)
            self.assertEqual(found, expected)
            if expected is not None:
                self.assertIs(type(found), tuple)
            self.assertEqual(member.taken(), before)

    def test_members_of_the_same_store(self):
        for first in ((0,), (0, 3, 7), (0, 1, 2, 3, 4, 5, 6, 7)):
            for second in ((0,), (1, 3, 6), (2, 4)):
                self.assert_meet(member_of(LINE, *first), member_of(LINE, *second).taken(), None)

    def test_no_taken_versions(self):
        self.assert_meet(member_of(LINE, 0, 3), [], None)

    def test_no_common_number(self):
        self.assert_meet(member_of(LINE, 0, 3, 5), member_of(OTHER_LINE, 1, 2, 4, 6).taken(), None)

    def test_member_with_other_changes(self):
        for number in range(3, 8):
            first, second = member_of(LINE, 0, number), member_of(OTHER_LINE, 0, number)
            self.assert_meet(first, second.taken(), (LINE[number], OTHER_LINE[number]))
            self.assert_meet(second, first.taken(), (OTHER_LINE[number], LINE[number]))

    def test_first_different_version(self):
        first = member_of(LINE, 0, 2, 4, 5, 7)
        second = member_of(OTHER_LINE, 1, 2, 3, 5, 6, 7)
        self.assert_meet(first, second.taken(), (LINE[5], OTHER_LINE[5]))
        self.assert_meet(second, first.taken(), (OTHER_LINE[5], LINE[5]))

    def test_order_of_the_given_list(self):
        source = random.Random(39)
        first, given = member_of(LINE, 0, 4, 5, 7), member_of(OTHER_LINE, 0, 4, 5, 7).taken()
        for _ in range(30):
            source.shuffle(given)
            self.assert_meet(first, given, (LINE[4], OTHER_LINE[4]))
        self.assert_meet(first, given[:0] + [OTHER_LINE[7], OTHER_LINE[5]], (LINE[5], OTHER_LINE[5]))

    def test_seal_that_does_not_fit(self):
        # Only the first different one counts, also if a later number would make a double.
        first = member_of(LINE, 0, 3, 4, 5)
        for given in ((), (1, 2, 3, 4), OTHER_LINE[3][1][:3], LINE[3][1], FOREIGN_LINE[3][1]):
            wrong = (OTHER_LINE[3][0], given)
            self.assert_meet(first, [wrong], None)
            self.assert_meet(first, [wrong] + OTHER_LINE[4:6], None)
            self.assert_meet(first, OTHER_LINE[5:3:-1] + [wrong], None)
            self.assert_meet(first, [(LINE[3][0], given)] + OTHER_LINE[4:6], (LINE[4], OTHER_LINE[4]))

    def test_own_seal_that_does_not_fit(self):
        # The first sealed version was not looked at.
        member = Member(ref.RULE, CARDS, (LINE[3][0], (1, 2, 3, 4)))
        self.assertIs(member.follow(LINE[4], []), True)
        self.assert_meet(member, OTHER_LINE[3:5], None)
        self.assert_meet(member, OTHER_LINE[4:5], (LINE[4], OTHER_LINE[4]))

    def test_cards(self):
        for many in range(7):
            member = Member(ref.RULE, CARDS[:many], LINE[3])
            self.assert_meet(member, [OTHER_LINE[3]], (LINE[3], OTHER_LINE[3]) if many > 3 else None)
        self.assert_meet(Member(ref.RULE, ref.cards(ref.RULE, SECRET + 1, 20), LINE[3]), [OTHER_LINE[3]], None)

    def test_first_versions(self):
        member = Member(ref.RULE, CARDS[:1], LINE[0])
        other = ref.sealed(ref.RULE, SECRET, (0, HEADS[5], 0))
        self.assert_meet(member, [other], (LINE[0], other))
        self.assert_meet(member, [(other[0], LINE[0][1])], None)

    def test_versions_that_differ_in_the_seal_alone(self):
        member = member_of(LINE, 0, 3, 4)
        self.assert_meet(member, [(version, given[::-1]) for version, given in LINE], None)

    def test_small_moduli(self):
        source = random.Random(40)
        many = {True: 0, False: 0}
        for _ in range(120):
            rule = (source.randint(1, 20), source.randint(2, 5))
            lines = [ref.sealed_line(rule, SECRET, [source.choice(HEADS[:3]) for _ in range(4)]) for _ in range(2)]
            member = Member(rule, ref.cards(rule, SECRET, 4), lines[0][0])
            for sealed in lines[0][1:]:
                self.assertIs(member.follow(sealed, []), True)
            given = [(version, tuple(source.choice([part, source.randint(0, rule[1])]) for part in its_seal))
                     for version, its_seal in lines[1]]
            pair = next(((one, other) for one, other in zip(lines[0], given) if one[0] != other[0]), None)
            if pair is not None and not is_double(rule, ref.cards(rule, SECRET, 4), *pair):
                pair = None
            self.assert_meet(member, given, pair)
            many[pair is None] += 1
        self.assertGreater(min(many.values()), 20)


class ListsTest(ref.KeepingTest):

    def test_cards_that_were_given(self):
        cards = list(CARDS)
        member = Member(ref.RULE, cards, LINE[0])
        cards[3] = cards[4]
        del cards[5:]
        self.assertIs(member.follow(LINE[3], path(LINE, 0, 3)), True)
        cards.clear()
        self.assertIs(member.follow(LINE[7], path(LINE, 3, 7)), True)
        self.assertEqual(member.meet([OTHER_LINE[7]]), (LINE[7], OTHER_LINE[7]))
        cards.extend(CARDS)
        short = Member(ref.RULE, cards[:1], LINE[0])
        self.assertIs(short.follow(LINE[1], []), False)

    def test_cards_that_are_given_later_do_not_count(self):
        cards = CARDS[:1]
        member = Member(ref.RULE, cards, LINE[0])
        cards.extend(CARDS[1:])
        self.assertIs(member.follow(LINE[1], []), False)

    def test_paths_that_were_given(self):
        member = member_of(LINE, 0)
        given = path(LINE, 0, 4)
        self.assertIs(member.follow(LINE[4], given), True)
        given.clear()
        self.assertEqual(member.taken(), [LINE[0], LINE[4]])

    def test_lists_that_were_returned(self):
        member = member_of(LINE, 0, 2, 4)
        taken = member.taken()
        taken.clear()
        self.assertEqual(member.taken(), [LINE[0], LINE[2], LINE[4]])
        member.taken().append(LINE[7])
        self.assertEqual(member.version(), LINE[4][0])
        certificate = ref.query_certificate(ref.RULE, TABLES[4], ("range", "", LAST))
        member.read(("range", "", LAST), certificate)[1].clear()
        self.assertEqual(member.read(("range", "", LAST), certificate), ("answer", TABLES[4]))
        pairing = ref.Pairing(ref.RULE, TABLES[0], TABLES[4])
        pairing.differences()
        expected = copy.deepcopy(member.changes(0, pairing.certificate))
        member.changes(0, pairing.certificate)[1].clear()
        self.assertEqual(member.changes(0, pairing.certificate), expected)

    def test_older_list_of_taken_versions_stays(self):
        member = member_of(LINE, 0)
        before = member.taken()
        member.follow(LINE[1], [])
        self.assertEqual(before, [LINE[0]])

    def test_two_members_are_apart(self):
        first, second = member_of(LINE, 0), member_of(LINE, 0)
        first.follow(LINE[1], [])
        self.assertEqual(second.taken(), [LINE[0]])

    def test_defined_in_its_file(self):
        self.assertEqual(Member.__module__, member_file.__name__)
        for name in ("version", "taken", "follow", "read", "changes", "change", "meet"):
            self.assertIn(name, vars(Member))


if __name__ == "__main__":
    unittest.main()
