"""Tests of rightrows.meetings: doubles (point 30) and partings (point 33)."""

import random
import unittest

import reference as ref
from rightrows import meetings
from rightrows.meetings import is_double, parting
from rightrows.trees import head_of

HEADS = [head_of(ref.RULE, ref.FRUIT[:number]) for number in range(7)]
SECRET = 41
CARDS = ref.cards(ref.RULE, SECRET, 6)
LINE = ref.sealed_line(ref.RULE, SECRET, HEADS[:6])
# The versions from number 2 on are others, each with a right seal.
OTHER_LINE = ref.sealed_line(ref.RULE, SECRET, HEADS[:2] + HEADS[3:])


class DoubleTest(ref.KeepingTest):

    def assert_double(self, expected, first, second, cards=None, rule=ref.RULE):
        cards = CARDS if cards is None else cards
        with self.subTest(first=first, second=second):
            self.assertIs(self.kept(is_double, rule, cards, first, second), expected)
            self.assertIs(self.kept(is_double, rule, cards, second, first), expected)

    def resealed(self, sealed, given):
        return (sealed[0], given)

    def test_different_versions_with_right_seals(self):
        for number in range(2, 6):
            self.assert_double(True, LINE[number], OTHER_LINE[number])

    def test_first_versions(self):
        first, second = [ref.sealed(ref.RULE, SECRET, (0, head, 0)) for head in HEADS[:2]]
        self.assert_double(True, first, second)
        self.assert_double(True, first, second, CARDS[:1])
        self.assert_double(False, first, second, [])
        self.assert_double(False, first, second, CARDS[1:])

    def test_whatever_differs_in_the_versions(self):
        number, head, before = LINE[2][0]
        versions = [(number, head, before + 1), (number, head, 0), (number, HEADS[0], before)]
        versions.extend([(number, (head[0] + 1, head[1], head[2]), before), (number, (head[0], 9, head[2]), before),
                         (number, (head[0], head[1], (1, 1, 1)), before)])
        for version in versions:
            self.assert_double(True, LINE[2], ref.sealed(ref.RULE, SECRET, version))

    def test_equal_versions(self):
        for sealed in LINE:
            self.assert_double(False, sealed, sealed)
            self.assert_double(False, sealed, self.resealed(sealed, sealed[1]))

    def test_equal_versions_with_different_seals_that_fit(self):
        rule = (2, 4)
        cards = ref.cards(rule, SECRET, 2)
        version = (1, HEADS[3], 2)
        given = ref.seal(rule, SECRET, 1, version)
        fitting = [given[:place] + (number,) + given[place + 1:] for place in range(4) for number in range(4)]
        fitting = [one for one in fitting if one != given and ref.fits(rule, cards[1], 1, version, one)]
        self.assertGreater(len(fitting), 0)
        for other in fitting:
            self.assert_double(False, (version, given), (version, other), cards, rule)

    def test_different_numbers(self):
        for first in range(6):
            for second in range(first):
                self.assert_double(False, LINE[first], LINE[second])
                self.assert_double(False, LINE[first], OTHER_LINE[second])

    def test_different_numbers_alone(self):
        _, head, before = LINE[3][0]
        other = ref.sealed(ref.RULE, SECRET, (4, head, before))
        self.assert_double(False, LINE[3], other)
        self.assert_double(False, LINE[3], (other[0], ref.seal(ref.RULE, SECRET, 3, other[0])))

    def test_no_card_for_the_number(self):
        for number in range(2, 6):
            for many in range(7):
                self.assert_double(many > number, LINE[number], OTHER_LINE[number], CARDS[:many])

    def test_number_of_the_last_card_counted_from_the_end(self):
        # There are no cards for numbers below 0, also if the seals fit the last card.
        versions = (-1, HEADS[1], 0), (-1, HEADS[2], 0)
        first, second = [ref.sealed(ref.RULE, SECRET, version) for version in versions]
        self.assert_double(False, first, second, CARDS[:3] + [ref.card(ref.RULE, SECRET, -1)])

    def test_seal_that_does_not_fit(self):
        for number in range(2, 6):
            first, second = LINE[number], OTHER_LINE[number]
            for place in range(4):
                for sealed, other in ((first, second), (second, first)):
                    wrong = sealed[1][:place] + (sealed[1][place] + 1,) + sealed[1][place + 1:]
                    self.assert_double(False, self.resealed(sealed, wrong), other)
                    self.assert_double(False, self.resealed(sealed, wrong), self.resealed(other, wrong))
            self.assert_double(False, self.resealed(first, second[1]), second)
            self.assert_double(False, first, self.resealed(second, first[1]))

    def test_seal_with_another_number_of_values(self):
        first, second = LINE[3], OTHER_LINE[3]
        for given in ((), second[1][:1], second[1][:3], second[1] + (0,), second[1] + second[1]):
            self.assert_double(False, first, self.resealed(second, given))

    def test_cards_of_another_store(self):
        for number in range(2, 6):
            self.assert_double(False, LINE[number], OTHER_LINE[number], ref.cards(ref.RULE, SECRET + 1, 6))
            self.assert_double(False, LINE[number], OTHER_LINE[number], CARDS[1:] + CARDS[:1])
        mixed = CARDS[:3] + ref.cards(ref.RULE, SECRET + 1, 6)[3:]
        self.assert_double(True, LINE[2], OTHER_LINE[2], mixed)
        self.assert_double(False, LINE[3], OTHER_LINE[3], mixed)

    def test_seal_of_another_store(self):
        for number in range(2, 6):
            other = ref.sealed(ref.RULE, SECRET + 1, OTHER_LINE[number][0])
            self.assert_double(False, LINE[number], other)

    def test_small_moduli(self):
        source = random.Random(31)
        many = {True: 0, False: 0}
        for _ in range(400):
            rule = (source.randint(1, 20), source.randint(2, 6))
            cards = ref.cards(rule, SECRET, 3)
            sealed = []
            for _ in range(2):
                version = (source.choice([1, 2, 2, 3]), source.choice(HEADS[:3]), source.randint(0, 2))
                right = ref.seal(rule, SECRET, version[0], version)
                given = tuple(source.choice([part, part, source.randint(0, rule[1])]) for part in right)
                sealed.append((version, given))
            numbers = [version[0] for version, _ in sealed]
            expected = (numbers[0] == numbers[1] < 3 and sealed[0][0] != sealed[1][0] and all(
                ref.fits(rule, cards[numbers[0]], numbers[0], version, given) for version, given in sealed))
            self.assert_double(expected, sealed[0], sealed[1], cards, rule)
            many[expected] += 1
        self.assertGreater(min(many.values()), 20)

    def test_defined_in_their_file(self):
        for function in (is_double, parting):
            self.assertEqual(function.__module__, meetings.__name__)


class PartingTest(ref.KeepingTest):

    def assert_parting(self, first, second, expected):
        with self.subTest(first=first, second=second):
            found = self.kept(parting, first, second)
            self.assertEqual(found, expected)
            if expected is not None:
                self.assertIs(type(found), tuple)
                self.assertIs(found[0], next(one for one in first if one[0][0] == found[0][0][0]))
                self.assertIs(found[1], next(one for one in second if one[0][0] == found[0][0][0]))

    def assert_both_ways(self, first, second, expected):
        self.assert_parting(first, second, expected)
        self.assert_parting(second, first, expected and expected[::-1])

    def test_empty_lists(self):
        self.assert_both_ways([], [], None)
        self.assert_both_ways(LINE, [], None)

    def test_no_common_number(self):
        self.assert_both_ways(LINE[:3], OTHER_LINE[3:], None)
        self.assert_both_ways(LINE[2:3] + LINE[4:5], OTHER_LINE[3:4] + OTHER_LINE[5:], None)

    def test_common_numbers_with_equal_versions(self):
        self.assert_both_ways(LINE, list(LINE), None)
        self.assert_both_ways(LINE, LINE[3:], None)
        self.assert_both_ways(LINE[:4], LINE[3:], None)
        self.assert_both_ways(LINE, OTHER_LINE[:2], None)
        self.assert_both_ways(LINE, LINE[::-1], None)

    def test_one_different_version(self):
        for number in range(2, 6):
            pair = LINE[number], OTHER_LINE[number]
            self.assert_both_ways([pair[0]], [pair[1]], pair)
            self.assert_both_ways(LINE, [pair[1]], pair)
            self.assert_both_ways([pair[0]], OTHER_LINE, pair)
            self.assert_both_ways(LINE, LINE[:number] + [pair[1]] + LINE[number + 1:], pair)

    def test_first_of_several_different_versions(self):
        self.assert_both_ways(LINE, OTHER_LINE, (LINE[2], OTHER_LINE[2]))
        self.assert_both_ways(LINE[3:], OTHER_LINE, (LINE[3], OTHER_LINE[3]))
        self.assert_both_ways(LINE, OTHER_LINE[:2] + OTHER_LINE[4:], (LINE[4], OTHER_LINE[4]))
        self.assert_both_ways(LINE[:3] + LINE[5:], LINE[2:3] + OTHER_LINE[3:], (LINE[5], OTHER_LINE[5]))

    def test_lists_that_are_not_in_the_order_of_their_numbers(self):
        source = random.Random(33)
        for _ in range(100):
            first, second = source.sample(LINE, 6), source.sample(OTHER_LINE, 6)
            self.assert_both_ways(first, second, (LINE[2], OTHER_LINE[2]))
            self.assert_both_ways(LINE, second, (LINE[2], OTHER_LINE[2]))

    def test_sealed_versions_that_differ_in_the_seal_alone(self):
        resealed = [(version, given[::-1]) for version, given in LINE]
        self.assert_both_ways(LINE, resealed, None)
        self.assert_both_ways(LINE, [(version, ()) for version, _ in LINE], None)
        self.assert_both_ways(resealed, OTHER_LINE, (resealed[2], OTHER_LINE[2]))

    def test_seals_do_not_matter(self):
        # No card is asked for: a parting need not be a double.
        wrong = [(version, (1, 2, 3)) for version, _ in OTHER_LINE]
        self.assert_both_ways(LINE, wrong, (LINE[2], wrong[2]))

    def test_versions_that_differ_anywhere(self):
        number, head, before = LINE[2][0]
        for version in ((number, head, before + 1), (number, HEADS[0], before),
                        (number, (head[0], head[1], (0, 0, 1)), before)):
            other = (version, LINE[2][1])
            self.assert_both_ways(LINE, [other], (LINE[2], other))

    def test_great_numbers(self):
        first = [((number, HEADS[0], 0), ()) for number in (10, 9, 100, 10 ** 30)]
        second = [((number, HEADS[1], 0), ()) for number in (10 ** 30, 100, 10)]
        self.assert_both_ways(first, second, (first[0], second[2]))

    def test_many_lists(self):
        source = random.Random(34)
        lines = [ref.line_of((3, 5), [source.choice(HEADS) for _ in range(6)]) for _ in range(6)]
        many = {True: 0, False: 0}
        for _ in range(500):
            given = [[(version, ()) for version in source.sample(source.choice(lines), source.randint(0, 6))]
                     for _ in range(2)]
            pairs = sorted([(one, other) for one in given[0] for other in given[1] if one[0][0] == other[0][0]])
            expected = next((pair for pair in pairs if pair[0] != pair[1]), None)
            self.assert_both_ways(given[0], given[1], expected)
            many[expected is None] += 1
        self.assertGreater(min(many.values()), 100)


if __name__ == "__main__":
    unittest.main()
