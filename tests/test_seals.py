"""Tests of rightrows.seals: cards (point 28), and seals and whether they fit (point 29)."""

import random
import unittest

import reference as ref
from rightrows import seals
from rightrows.seals import card_of, is_sealed, seal

# With the base 1 a digest is 1, plus each integer plus 1, plus how many there are.
ADDING_RULE = (1, 10 ** 18)
RULES = (ref.RULE, (1, 2), (3, 5), (10 ** 18, 10 ** 18 - 1))
VERSION = (3, (587, 0, (0, 0, 0)), 12345)
VALUES = (VERSION, 0, 7, 10 ** 20, "", "abcXYZ019", (), (("a",), 5))
OTHERS = (VERSION[:2] + (12346,), 1, 8, 10 ** 20 + 1, "a", "abcXYZ018", ("",), (("a",), 6))


def added_up(secret, number, digit, way, steps):
    """The value of a chain by the adding rule.

    The encoding of ("secret", secret, number, digit, way) begins with 2 and 5; 1, 6 and 646 for the name; it has 18
    integers. That of ("chain", ..) begins with 2 and 6; 1, 5 and 515; it has 19 integers.
    """
    value = 1 + (2 + 5 + 1 + 6 + 646) + (secret + number + digit + way) + 18 + 18
    one_step = 1 + (2 + 6 + 1 + 5 + 515) + (number + digit + way) + 19 + 19
    return value + steps * one_step + sum(range(steps))


def value_for(rule, number, digits):
    """An integer on which the seal has two digits."""
    return next(value for value in range(10 ** 5) if ref.digits_to_seal(rule, number, value) == digits)


class CardTest(ref.KeepingTest):

    def assert_card(self, rule, secret, number, expected):
        with self.subTest(rule=rule, secret=secret, number=number):
            card = self.kept(card_of, rule, secret, number)
            self.assertEqual(card, expected)
            self.assertEqual([type(part) for part in (card,) + card], [tuple] + 4 * [int])

    def test_cards_added_up(self):
        self.assertEqual([sum(map(ord, word)) for word in ("secret", "chain")], [646, 515])
        # 1 and 660 and 0 and 18 and 18, then fifteen times 568, and 0 to 14.
        self.assert_card(ADDING_RULE, 0, 0, (697 + 15 * 568 + 105, 697 + 1 + 15 * 569 + 105,
                                             697 + 1 + 15 * 569 + 105, 697 + 2 + 15 * 570 + 105))
        for secret in (0, 10 ** 15):
            for number in range(100):
                self.assert_card(ADDING_RULE, secret, number, tuple(
                    added_up(secret, number, digit, way, 15) for digit in (0, 1) for way in (0, 1)))

    def test_cards_value_by_value(self):
        for rule in RULES:
            for secret in (0, 1, 12345, 10 ** 18, 10 ** 30):
                for number in (0, 1, 2, 19, 20, 99):
                    self.assert_card(rule, secret, number, ref.card(rule, secret, number))

    def test_all_numbers(self):
        for number in range(100):
            self.assert_card(ref.RULE, 10 ** 17 + 3, number, ref.card(ref.RULE, 10 ** 17 + 3, number))

    def test_many_rules(self):
        source = random.Random(28)
        for _ in range(100):
            rule = (source.randint(1, 10 ** source.randint(1, 18)), source.randint(2, 10 ** source.randint(1, 18)))
            secret, number = source.randint(0, 10 ** source.randint(0, 25)), source.randint(0, 99)
            self.assert_card(rule, secret, number, ref.card(rule, secret, number))

    def test_order_of_the_chains(self):
        card = card_of(ref.RULE, 5, 3)
        self.assertEqual(len(set(card)), 4)
        self.assertEqual(card[1], ref.chain_values(ref.RULE, 5, 3, 0, 1)[15])
        self.assertEqual(card[2], ref.chain_values(ref.RULE, 5, 3, 1, 0)[15])

    def test_other_secrets_and_numbers_have_other_cards(self):
        cards = {card_of(ref.RULE, secret, number) for secret in range(10) for number in range(10)}
        self.assertEqual(len(cards), 100)

    def test_somewhat_beyond_the_limits(self):
        self.assert_card(ref.RULE, 5, 1000, ref.card(ref.RULE, 5, 1000))
        self.assert_card((0, 1), 5, 1, (0, 0, 0, 0))

    def test_defined_in_their_file(self):
        for function in (card_of, seal, is_sealed):
            self.assertEqual(function.__module__, seals.__name__)


class SealTest(ref.KeepingTest):

    def assert_seal(self, rule, secret, number, value, expected):
        with self.subTest(rule=rule, secret=secret, number=number, value=value):
            given = self.kept(seal, rule, secret, number, value)
            self.assertEqual(given, expected)
            self.assertEqual([type(part) for part in (given,) + given], [tuple] + 4 * [int])
            self.assertIs(self.kept(is_sealed, rule, card_of(rule, secret, number), number, value, given), True)

    def test_all_digits_added_up(self):
        # The encoding of ("sealed", number, value) begins with 2 and 3; 1, 6 and 622 for the name; it has 14 integers.
        self.assertEqual(sum(map(ord, "sealed")), 622)
        for number in (0, 99):
            for value in range(256):
                mark = (1 + (2 + 3 + 1 + 6 + 622) + number + value + 14 + 14) % 256
                low, high = mark % 16, mark // 16
                self.assert_seal(ADDING_RULE, 1000, number, value, (
                    added_up(1000, number, 0, 0, low), added_up(1000, number, 0, 1, 15 - low),
                    added_up(1000, number, 1, 0, high), added_up(1000, number, 1, 1, 15 - high)))

    def test_least_and_greatest_digits(self):
        for number in (0, 1, 50, 99):
            for low in (0, 15):
                for high in (0, 15):
                    value = value_for(ref.RULE, number, (low, high))
                    chains = [ref.chain_values(ref.RULE, 9, number, digit, way) for digit, way in ref.CARD_PLACES]
                    self.assert_seal(ref.RULE, 9, number, value, (
                        chains[0][low], chains[1][15 - low], chains[2][high], chains[3][15 - high]))

    def test_digits_are_those_of_the_document(self):
        # 20 modulo 16 is 4, and 20 // 16 is 1.
        value = value_for(ADDING_RULE, 0, (4, 1))
        self.assertEqual((663 + value) % 256, 20)
        self.assert_seal(ADDING_RULE, 0, 0, value, (added_up(0, 0, 0, 0, 4), added_up(0, 0, 0, 1, 11),
                                                   added_up(0, 0, 1, 0, 1), added_up(0, 0, 1, 1, 14)))

    def test_kinds_of_values(self):
        for rule in RULES:
            for secret in (0, 10 ** 30):
                for value in VALUES + OTHERS:
                    self.assert_seal(rule, secret, 3, value, ref.seal(rule, secret, 3, value))

    def test_all_numbers(self):
        for number in range(100):
            version = (number,) + VERSION[1:]
            self.assert_seal(ref.RULE, 6, number, version, ref.seal(ref.RULE, 6, number, version))

    def test_value_for_another_number(self):
        # The number is that of the seal, whatever number the value has.
        self.assert_seal(ref.RULE, 6, 8, VERSION, ref.seal(ref.RULE, 6, 8, VERSION))
        self.assertNotEqual(seal(ref.RULE, 6, 8, VERSION), seal(ref.RULE, 6, 3, VERSION))

    def test_many_rules(self):
        source = random.Random(29)
        for _ in range(150):
            rule = (source.randint(1, 10 ** source.randint(1, 18)), source.randint(2, 10 ** source.randint(1, 18)))
            secret, number = source.randint(0, 10 ** source.randint(0, 25)), source.randint(0, 99)
            value = source.choice(VALUES + (source.randint(0, 10 ** 6),))
            self.assert_seal(rule, secret, number, value, ref.seal(rule, secret, number, value))

    def test_small_modulus_has_small_digits(self):
        # The digest modulo 256 is the digest itself here, so that the second digit is always 0.
        for value in VALUES:
            self.assertEqual(ref.digits_to_seal((3, 5), 3, value)[1], 0)
            chains = ref.chain_values((3, 5), 7, 3, 1, 0), ref.chain_values((3, 5), 7, 3, 1, 1)
            self.assertEqual(seal((3, 5), 7, 3, value)[2:], (chains[0][0], chains[1][15]))


class IsSealedTest(ref.KeepingTest):

    def assert_fits(self, expected, given, rule=ref.RULE, card=None, number=3, value=VERSION):
        with self.subTest(given=given, number=number, value=value):
            card = ref.card(rule, 6, 3) if card is None else card
            self.assertIs(self.kept(is_sealed, rule, card, number, value, given), expected)
            self.assertIs(ref.fits(rule, card, number, value, given), expected)

    def test_right_seals(self):
        for value in VALUES:
            self.assert_fits(True, ref.seal(ref.RULE, 6, 3, value), value=value)

    def test_not_four_values(self):
        for rule in (ref.RULE, (1, 2), (3, 5)):
            for value in VALUES:
                given = ref.seal(rule, 6, 3, value)
                for many in range(4):
                    self.assert_fits(False, given[:many], rule, value=value)
                    self.assert_fits(False, given[4 - many:], rule, value=value)
                for more in (0, 1, given[0], given[3]):
                    self.assert_fits(False, given + (more,), rule, value=value)
                    self.assert_fits(False, (more,) + given, rule, value=value)
                self.assert_fits(False, given + given, rule, value=value)

    def test_each_of_the_four_values_changed(self):
        for value in VALUES:
            given = ref.seal(ref.RULE, 6, 3, value)
            for place in range(4):
                for wrong in (0, 1, given[place] + 1, given[place] - 1, given[place - 1], 10 ** 30):
                    self.assert_fits(False, given[:place] + (wrong,) + given[place + 1:], value=value)

    def test_values_exchanged(self):
        given = ref.seal(ref.RULE, 6, 3, VERSION)
        for first in range(4):
            for second in range(first):
                other = list(given)
                other[first], other[second] = other[second], other[first]
                self.assert_fits(False, tuple(other))

    def test_value_that_is_a_step_too_far_or_behind(self):
        value = value_for(ref.RULE, 3, (6, 9))
        chains = [ref.chain_values(ref.RULE, 6, 3, digit, way) for digit, way in ref.CARD_PLACES]
        right = (6, 9, 9, 6)
        self.assert_fits(True, tuple(chain[steps] for chain, steps in zip(chains, right)), value=value)
        for place in range(4):
            for more in (-1, 1):
                steps = right[:place] + (right[place] + more,) + right[place + 1:]
                self.assert_fits(False, tuple(chain[many] for chain, many in zip(chains, steps)), value=value)
        self.assert_fits(False, tuple(chain[0] for chain in chains), value=value)
        self.assert_fits(False, tuple(chain[15] for chain in chains), value=value)

    def test_another_value(self):
        for value, other in zip(VALUES, OTHERS):
            self.assertNotEqual(ref.digits_to_seal(ref.RULE, 3, value), ref.digits_to_seal(ref.RULE, 3, other))
            self.assert_fits(False, ref.seal(ref.RULE, 6, 3, value), value=other)

    def test_another_value_with_the_same_digits(self):
        value = value_for(ref.RULE, 3, (6, 9))
        other = next(more for more in range(value + 1, 10 ** 5) if ref.digits_to_seal(ref.RULE, 3, more) == (6, 9))
        self.assert_fits(True, ref.seal(ref.RULE, 6, 3, value), value=other)

    def test_another_number(self):
        given = ref.seal(ref.RULE, 6, 3, VERSION)
        for number in (0, 2, 4, 99):
            self.assert_fits(False, given, number=number)
            self.assert_fits(False, given, card=ref.card(ref.RULE, 6, number), number=number)
            self.assert_fits(False, ref.seal(ref.RULE, 6, number, VERSION))

    def test_another_card(self):
        given = ref.seal(ref.RULE, 6, 3, VERSION)
        right = ref.card(ref.RULE, 6, 3)
        cards = [ref.card(ref.RULE, 7, 3), ref.card(ref.RULE, 6, 4), right[::-1], (0, 0, 0, 0), given]
        cards.extend(right[:place] + (right[place] + 1,) + right[place + 1:] for place in range(4))
        cards.extend(right[:place] + (right[place] + ref.RULE[1],) + right[place + 1:] for place in range(4))
        for card in cards:
            self.assert_fits(False, given, card=card)

    def test_another_secret(self):
        self.assert_fits(False, ref.seal(ref.RULE, 7, 3, VERSION))

    def test_values_from_the_modulus_on(self):
        # Where steps are left, only the remainder counts; where none are left, the value stands in the card itself.
        more = ref.RULE[1]
        for low, high in ((0, 0), (0, 15), (15, 0), (15, 15), (7, 7)):
            value = value_for(ref.RULE, 3, (low, high))
            given = ref.seal(ref.RULE, 6, 3, value)
            left = 15 - low, low, 15 - high, high
            for place in range(4):
                other = given[:place] + (given[place] + more,) + given[place + 1:]
                self.assert_fits(left[place] > 0, other, value=value)

    def test_small_moduli(self):
        source = random.Random(30)
        others = {}
        for _ in range(150):
            rule = (source.randint(1, 20), source.randint(2, 20))
            secret, number, value = source.randint(0, 99), source.randint(0, 19), source.choice(VALUES)
            card, right = ref.card(rule, secret, number), ref.seal(rule, secret, number, value)
            for _ in range(10):
                given = tuple(source.choice([part, source.randint(0, 2 * rule[1])]) for part in right)
                expected = ref.fits(rule, card, number, value, given)
                self.assert_fits(expected, given, rule, card, number, value)
                if given != right:
                    others[expected] = others.get(expected, 0) + 1
        self.assertGreater(min(others[True], others[False]), 100)

    def test_chains_that_run_together(self):
        # By the rule (2, 4) two values lead to the same ones after two steps at the most.
        value = value_for((2, 4), 3, (0, 0))
        card, right = ref.card((2, 4), 6, 3), ref.seal((2, 4), 6, 3, value)
        for other in range(4):
            self.assert_fits(True, (other, right[1], other, right[3]), (2, 4), card, value=value)
            self.assert_fits(other == right[1], (other, other, other, right[3]), (2, 4), card, value=value)


if __name__ == "__main__":
    unittest.main()
