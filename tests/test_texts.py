"""Tests of rightrows.texts: encodings (point 1) and digests (point 2)."""

import unittest

from rightrows import texts
from rightrows.texts import digest, encode

SMALL_RULE = (10, 1000000)
# With the base 1 a digest is 1, plus each integer plus 1, plus how many there are.
ADDING_RULE = (1, 10 ** 18)


class EncodeTest(unittest.TestCase):

    def test_example_of_the_document(self):
        self.assertEqual(encode(("a", 5)), [2, 2, 1, 1, 97, 0, 5])

    def test_integers(self):
        for number in (0, 1, 2, 65535, 65536, 10 ** 18, 10 ** 400):
            with self.subTest(number=number):
                self.assertEqual(encode(number), [0, number])

    def test_strings(self):
        self.assertEqual(encode("a"), [1, 1, 97])
        self.assertEqual(encode("az09"), [1, 4, 97, 122, 48, 57])
        self.assertEqual(encode("abc"), [1, 3, 97, 98, 99])

    def test_empty_string(self):
        self.assertEqual(encode(""), [1, 0])

    def test_capitals_have_their_own_codes(self):
        self.assertEqual(encode("AZaz"), [1, 4, 65, 90, 97, 122])

    def test_digits_of_a_string_are_characters(self):
        self.assertEqual(encode("5"), [1, 1, 53])
        self.assertEqual(encode("05"), [1, 2, 48, 53])

    def test_empty_tuple(self):
        self.assertEqual(encode(()), [2, 0])

    def test_tuples(self):
        self.assertEqual(encode((7,)), [2, 1, 0, 7])
        self.assertEqual(encode((0, 1, 2)), [2, 3, 0, 0, 0, 1, 0, 2])
        self.assertEqual(encode(("", "b")), [2, 2, 1, 0, 1, 1, 98])

    def test_nested_tuples(self):
        self.assertEqual(encode(((),)), [2, 1, 2, 0])
        self.assertEqual(encode(((), ())), [2, 2, 2, 0, 2, 0])
        self.assertEqual(encode((1, (2, "b"), ())), [2, 3, 0, 1, 2, 2, 0, 2, 1, 1, 98, 2, 0])
        self.assertEqual(encode((((3,), 4), "c")), [2, 2, 2, 2, 2, 1, 0, 3, 0, 4, 1, 1, 99])

    def test_an_entry_of_a_tree(self):
        empty = (587, 0, (0, 0, 0))
        expected = [2, 5, 1, 4, 110, 111, 100, 101, 1, 1, 97, 2, 2, 0, 1, 0, 2]
        expected += 2 * [2, 3, 0, 587, 0, 0, 2, 3, 0, 0, 0, 0, 0, 0]
        self.assertEqual(encode(("node", "a", (1, 2), empty, empty)), expected)

    def test_different_values_have_different_encodings(self):
        values = [0, 1, 10, "", "a", "A", "ab", "0", "1", "10", (), (0,), ("",), ((),), (0, 0), ((0,), 0),
                  (0, (0,)), ((0, 0),), ("a", "b"), ("ab",), ("a", "b", ""), (1, 1), (2, 0), (1, 0), (97,)]
        for first in range(len(values)):
            for second in range(first):
                with self.subTest(first=values[first], second=values[second]):
                    self.assertNotEqual(encode(values[first]), encode(values[second]))

    def test_deeply_nested_tuples(self):
        value = 9
        for _ in range(5000):
            value = (value,)
        # The lists are too long to be shown beside each other when they differ.
        self.assertTrue(encode(value) == 5000 * [2, 1] + [0, 9])

    def test_long_values(self):
        self.assertTrue(encode("a" * 3000) == [1, 3000] + 3000 * [97])
        self.assertTrue(encode(3000 * (1,)) == [2, 3000] + 3000 * [0, 1])

    def test_returned_list_is_new_and_free(self):
        value = ("a", (5, ()))
        encode(value).clear()
        encode(()).append(4)
        self.assertEqual(encode(value), [2, 2, 1, 1, 97, 2, 2, 0, 5, 2, 0])
        self.assertEqual(encode(()), [2, 0])
        self.assertIs(type(encode(value)), list)

    def test_defined_in_its_file(self):
        self.assertEqual((encode.__module__, digest.__module__), (texts.__name__, texts.__name__))


class DigestTest(unittest.TestCase):

    def test_example_of_the_document(self):
        self.assertEqual(digest(SMALL_RULE, ("a", 5)), 318167)

    def test_example_of_the_empty_head(self):
        self.assertEqual(digest((1, 1000000000), ("empty",)), 587)

    def test_steps_told_one_after_the_other(self):
        # [0, 5]: 1, then 10 + 1 = 11, then 110 + 6 = 116, and at the end 1160 + 2.
        self.assertEqual(digest(SMALL_RULE, 5), 1162)
        # [1, 0]: 1, then 10 + 2 = 12, then 120 + 1 = 121, and at the end 1210 + 2.
        self.assertEqual(digest(SMALL_RULE, ""), 1212)
        # [2, 0]: 1, then 10 + 3 = 13, then 130 + 1 = 131, and at the end 1310 + 2.
        self.assertEqual(digest(SMALL_RULE, ()), 1312)

    def test_remainder_is_taken(self):
        # [1, 0] by 7: 1, then 12 is 5, then 51 is 2, and at the end 22 is 1.
        self.assertEqual(digest((10, 7), ""), 1)

    def test_order_of_the_integers_counts(self):
        self.assertNotEqual(digest(SMALL_RULE, (1, 2)), digest(SMALL_RULE, (2, 1)))
        self.assertNotEqual(digest(SMALL_RULE, "ab"), digest(SMALL_RULE, "ba"))

    def test_smallest_base(self):
        self.assertEqual(digest(ADDING_RULE, ("a", 5)), 1 + (2 + 2 + 1 + 1 + 97 + 0 + 5) + 7 + 7)
        self.assertEqual(digest(ADDING_RULE, (1, 2)), digest(ADDING_RULE, (2, 1)))

    def test_smallest_modulus(self):
        # [0, 0]: 1, then 2 is 0, then 1, and at the end 3 is 1.
        self.assertEqual(digest((1, 2), 0), 1)
        # [0, 1]: 1, then 2 is 0, then 2 is 0, and at the end 2 is 0.
        self.assertEqual(digest((1, 2), 1), 0)

    def test_greatest_base_and_modulus(self):
        # The base leaves no remainder: only how many integers there are is left.
        self.assertEqual(digest((10 ** 18, 10 ** 18), ("a", 5)), 7)
        # The base is like -1. [0, 5]: 1, then 0, then 6, and at the end -6 + 2.
        self.assertEqual(digest((10 ** 18 - 1, 10 ** 18), 5), 10 ** 18 - 4)

    def test_base_greater_than_the_modulus(self):
        self.assertEqual(digest((17, 7), ""), digest((10, 7), ""))
        self.assertEqual(digest((10 ** 18, 2), 0), 0)

    def test_great_integers(self):
        self.assertEqual(digest(ADDING_RULE, 10 ** 30), 1 + 1 + 1 + 2)
        self.assertEqual(digest(ADDING_RULE, 10 ** 18 - 5), 0)
        self.assertEqual(digest(ADDING_RULE, 10 ** 400 + 7), 12)

    def test_capitals_are_other_letters(self):
        self.assertEqual(digest(ADDING_RULE, "a") - digest(ADDING_RULE, "A"), 97 - 65)

    def test_deeply_nested_tuples(self):
        value = 9
        for _ in range(5000):
            value = (value,)
        # 1, then 5000 times 2 and 1, then 0 and 9, each plus 1, then 10002 integers.
        self.assertEqual(digest(ADDING_RULE, value), 1 + 5000 * 5 + 11 + 10002)

    def test_every_digest_is_a_remainder(self):
        values = [0, 1, 10 ** 20, "", "abc", "XYZ9", (), ((), 5, "q"), (((1,),),)]
        for rule in ((1, 2), (3, 2), (131, 1000003), (10 ** 18, 999999999999999989)):
            for value in values:
                with self.subTest(rule=rule, value=value):
                    self.assertIn(digest(rule, value), range(rule[1]))

    def test_same_answer_each_time(self):
        value = ("node", "a", (1, 2))
        self.assertEqual(digest((131, 1000003), value), digest((131, 1000003), value))


if __name__ == "__main__":
    unittest.main()
