"""Tests of rightrows.notation: written tables (point 37) and wishes (point 38)."""

import itertools
import random
import unittest

import reference as ref
from rightrows import notation
from rightrows.errors import InvalidLine, InvalidWord, RightrowsError
from rightrows.notation import format_table, format_wish, is_query, parse_table, parse_wish
from rightrows.tables import is_table

# Signs for which Python's own tests say that they are digits, numbers or lower-case letters.
FOREIGN_DIGITS = "\u0661\u0967\uff11\u00b2\u2460\u00bd\U0001d7d9"
FOREIGN_LETTERS = "\u00e4\u0430\u03b1\u00df\uff41\u00aa\u0131\U0001d41a"
# Signs that Python takes for the ends of lines or for blanks in other places.
FOREIGN_BLANKS = "\t\r\x0b\x0c\x1c\x1d\x1e\x85\xa0\u2028\u2029\u3000\x00"
# All that can be seen but digits and lower-case letters.
OTHER_SIGNS = "".join(sign for sign in map(chr, range(33, 127)) if sign not in ref.SIGNS)
KEYS = tuple(ref.SIGNS) + ("abcdefgh", "12345678", "a1b2c3d4", "00000000")
NOT_KEYS = ("", "abcdefghi", "aB", "a_b", "--", "a\nb") + tuple(
    "a" + sign for sign in OTHER_SIGNS + FOREIGN_DIGITS + FOREIGN_LETTERS + FOREIGN_BLANKS) + tuple(
    OTHER_SIGNS + FOREIGN_DIGITS + FOREIGN_LETTERS + FOREIGN_BLANKS)
NOT_BOUNDS = tuple(word for word in NOT_KEYS if word not in ("-", "abcdefghi")) + ("abcdefghij", "0123456789")
NO_DIGITS = ref.SIGNS[:26] + OTHER_SIGNS + FOREIGN_DIGITS + FOREIGN_BLANKS
NOT_NUMBERS = ("", "00", "01", "000", "007", "-0", "+0", "0x1", "1e1", "1_0", "1.0", "1,0", "0.", "9" * 20, "9" * 5000,
               "1" + "0" * 5000, "0" * 5000) + tuple(NO_DIGITS) + tuple("1" + sign for sign in NO_DIGITS) + tuple(
    sign + "1" for sign in NO_DIGITS)


class NotationCase(ref.KeepingTest):

    def assert_line(self, text, number):
        with self.subTest(text=text[:100]):
            with self.assertRaises(InvalidLine) as caught:
                parse_table(text)
            self.assertEqual(caught.exception.number, number)
            self.assertIs(type(caught.exception.number), int)
            self.assertIsInstance(caught.exception, RightrowsError)
            self.assertNotIsInstance(caught.exception, InvalidWord)

    def assert_word(self, text, number):
        with self.subTest(text=text[:100]):
            with self.assertRaises(InvalidWord) as caught:
                parse_wish(text)
            self.assertEqual(caught.exception.number, number)
            self.assertIs(type(caught.exception.number), int)
            self.assertIsInstance(caught.exception, RightrowsError)
            self.assertNotIsInstance(caught.exception, InvalidLine)


class TableTest(NotationCase):

    def assert_both_ways(self, table, text):
        with self.subTest(text=text[:100]):
            self.assertEqual(self.kept(format_table, table), text)
            parsed = parse_table(text)
            self.assertEqual(parsed, table)
            self.assertEqual([type(part) for part in (parsed,) + tuple(parsed)], [list] + [tuple] * len(table))
            self.assertEqual([type(row) for _, row in parsed], [tuple] * len(table))
            self.assertTrue(is_table(parsed) or len(parsed) > 100)

    def test_empty_table(self):
        self.assert_both_ways([], "")

    def test_one_line(self):
        self.assert_both_ways([("a", (1,))], "a 1")
        self.assert_both_ways([("a", (0,))], "a 0")
        self.assert_both_ways([("a", (1, 2))], "a 1 2")
        self.assert_both_ways([("a", (1, 2, 3))], "a 1 2 3")
        self.assert_both_ways([("abcdefgh", (65535, 0, 65535))], "abcdefgh 65535 0 65535")
        self.assert_both_ways([("0", (10, 100, 1000))], "0 10 100 1000")
        for key in KEYS:
            self.assert_both_ways([(key, (65534,))], key + " 65534")

    def test_several_lines(self):
        self.assert_both_ways([("a", (1, 2)), ("b", (3,)), ("d", (4, 5))], "a 1 2\nb 3\nd 4 5")
        self.assert_both_ways(ref.FRUIT, "apple 5 1 9\ndate 4\nfig 7\nkiwi 1 2\nlime 0 65535\npear 2 3 4\nplum 65535")
        self.assert_both_ways([("0", (0,)), ("00", (0, 0)), ("9", (0,)), ("a", (0,)), ("a0", (0,)), ("aa", (0,)),
                               ("b", (0,))], "0 0\n00 0 0\n9 0\na 0\na0 0\naa 0\nb 0")

    def test_zeros_at_the_end_of_a_row_stay(self):
        self.assert_both_ways([("a", (3, 0)), ("b", (3,)), ("c", (0, 0, 0))], "a 3 0\nb 3\nc 0 0 0")

    def test_many_tables(self):
        source = random.Random(70)
        for _ in range(200):
            table = ref.random_table(source, source.randint(0, 20), source.choice([9, 99, 65535]))
            lines = []
            for key, row in table:
                lines.append(key + "".join(" %d" % number for number in row))
            self.assert_both_ways(table, "\n".join(lines))

    def test_texts_of_100_lines(self):
        table = ref.chain_table(100)
        text = "\n".join(f"{key} {row[0]} {row[1]}" for key, row in table)
        self.assert_both_ways(table, text)
        self.assert_line(text.replace("ab 1 1", "ab  1"), 1)
        self.assert_line(text[:-1] + "x", 99)
        self.assert_line(text + " ", 99)

    def test_somewhat_beyond_the_limits(self):
        for many in (101, 150):
            table = ref.chain_table(many)
            self.assert_both_ways(table, "\n".join(f"{key} {row[0]} {row[1]}" for key, row in table))
        self.assertEqual(format_table([("toolongkey", (70000, 1, 2, 3))]), "toolongkey 70000 1 2 3")

    def test_returned_list_is_new(self):
        parse_table("a 1").clear()
        parse_table("").append(("b", (2,)))
        self.assertEqual(parse_table("a 1"), [("a", (1,))])
        self.assertEqual(parse_table(""), [])


class WrongTableTest(NotationCase):

    def assert_each_place(self, line):
        """See that a wrong line is told by its number wherever it stands."""
        self.assert_line(line, 0)
        self.assert_line(line + "\nzz 1", 0)
        self.assert_line("0 1\n" + line, 1)
        self.assert_line("0 1\n00 2 3\n" + line + "\nzz 1\nzzz 2", 2)
        # The first wrong line counts.
        self.assert_line("0 1\n" + line + "\n" + line, 1)
        self.assert_line("0 1\n" + line + "\n0", 1)

    def test_words_that_are_no_keys(self):
        # An empty key is a blank at the beginning of the line.
        for word in NOT_KEYS:
            if "\n" not in word:
                self.assert_each_place(word + " 1")

    def test_words_that_are_no_integers_of_a_row(self):
        for word in NOT_NUMBERS + ("65536", "65537", "70000", "99999", "100000", "655350"):
            self.assert_each_place("m " + word)
            self.assert_line("m " + word + " 1", 0)
            self.assert_line("m 1 " + word, 0)
            self.assert_line("m 1 " + word + " 3", 0)
            self.assert_line("m 1 2 " + word, 0)

    def test_rows_that_are_too_short_or_too_long(self):
        self.assert_each_place("m")
        self.assert_each_place("m 1 2 3 4")
        self.assert_each_place("m 0 0 0 0 0")
        self.assert_each_place("m" + 1000 * " 1")

    def test_spaces(self):
        for line in (" ", "  ", " m", "m ", " m 1", "m 1 ", "m  1", "m 1  2", "m 1 2 ", "m 1 2 3 ", " m 1 2 3", "m 1 2  3"):
            self.assert_each_place(line)

    def test_other_blanks(self):
        for blank in FOREIGN_BLANKS:
            for line in ("m" + blank + "1", "m 1" + blank + "2", blank + "m 1", "m 1" + blank, "m" + blank + " 1"):
                self.assert_each_place(line)

    def test_empty_lines(self):
        self.assert_line("\n", 0)
        self.assert_line("\n\n", 0)
        self.assert_line("\na 1", 0)
        self.assert_line("a 1\n", 1)
        self.assert_line("a 1\n\n", 1)
        self.assert_line("a 1\n\nb 1", 1)
        self.assert_line("a 1\nb 1\n", 2)

    def test_other_ends_of_lines(self):
        self.assert_line("a 1\r\nb 1", 0)
        self.assert_line("a 1\rb 1", 0)
        self.assert_line("a 1\nb 1\r", 1)
        self.assert_line("a 1\u2028b 1", 0)

    def test_keys_that_are_not_greater(self):
        for first, second in (("b", "a"), ("a", "a"), ("aa", "a"), ("a", "9"), ("a0", "a"), ("b", "aaaaaaaa")):
            self.assert_line(f"{first} 1\n{second} 1", 1)
            self.assert_line(f"0 1\n{first} 1\n{second} 1\nzz 1", 2)
            self.assert_line(f"{first} 1\nzz 1\n{second} 1", 2)
        self.assert_line("a 1\nb 1\nc 1\nb 1\na 1", 3)

    def test_first_of_several_wrong_lines(self):
        self.assert_line("a 1\nb\nc x\na 1", 1)
        self.assert_line("a 1\nb 2\na 1\nc x\n", 2)
        self.assert_line("b 1\na 1\nc", 1)
        self.assert_line("a 01\na 1", 0)

    def test_foreign_signs_between_right_ones(self):
        for sign in FOREIGN_DIGITS:
            self.assert_line("m 1" + sign + "1", 0)
            self.assert_line("m1" + sign + " 1", 0)
        for sign in FOREIGN_LETTERS:
            self.assert_line("m" + sign + "m 1", 0)


WISHES = (
    (("get", "a"), "get a"),
    (("get", "abcdefgh"), "get abcdefgh"),
    (("get", "get"), "get get"),
    (("range", "a", "b"), "range a b"),
    (("range", "", "b"), "range - b"),
    (("range", "a", ""), "range a -"),
    (("range", "", ""), "range - -"),
    (("range", "zzzzzzzzz", "000000000"), "range zzzzzzzzz 000000000"),
    (("next", "a", 1), "next a 1"),
    (("next", "", 0), "next - 0"),
    (("next", "123456789", 100), "next 123456789 100"),
    (("count", "a", "b"), "count a b"),
    (("count", "", ""), "count - -"),
    (("sum", 1, "", "pear"), "sum 1 - pear"),
    (("sum", 0, "a", ""), "sum 0 a -"),
    (("sum", 2, "0", "9"), "sum 2 0 9"),
    (("place", "a"), "place a"),
    (("place", ""), "place -"),
    (("place", "zzzzzzzzz"), "place zzzzzzzzz"),
    (("at", 0), "at 0"),
    (("at", 10), "at 10"),
    (("at", 99999), "at 99999"),
    (("put", "a", (1,)), "put a 1"),
    (("put", "a", (0, 0)), "put a 0 0"),
    (("put", "put", (65535, 0, 65535)), "put put 65535 0 65535"),
    (("remove", "a"), "remove a"),
    (("remove", "00000000"), "remove 00000000"),
)
# Right words for the places behind each name, with the kind of each place.
RIGHT = {
    "get": (("key", "m"),),
    "range": (("bound", "b"), ("bound", "m")),
    "next": (("bound", "b"), (100, "7")),
    "count": (("bound", "b"), ("bound", "m")),
    "sum": ((2, "1"), ("bound", "b"), ("bound", "m")),
    "place": (("bound", "m"),),
    "at": ((99999, "7"),),
    "put": (("key", "m"), (65535, "5"), (65535, "6"), (65535, "7")),
    "remove": (("key", "m"),),
}
NAMES = tuple(RIGHT)


def wrong_words(kind):
    if kind == "key":
        return NOT_KEYS
    if kind == "bound":
        return NOT_BOUNDS
    return NOT_NUMBERS + (str(kind + 1), str(kind + 2), str(kind) + "0", "0" + str(kind), "100000", "999999")


class WishTest(NotationCase):

    def test_both_ways(self):
        for wish, text in WISHES:
            with self.subTest(text=text):
                self.assertEqual(self.kept(format_wish, wish), text)
                self.assertEqual(parse_wish(text), wish)
                self.assertIs(type(parse_wish(text)), tuple)
        self.assertEqual(sorted({wish[0] for wish, _ in WISHES}), sorted(NAMES))

    def test_example_of_the_document(self):
        self.assertEqual(parse_wish("sum 1 - pear"), ("sum", 1, "", "pear"))

    def test_is_query(self):
        for wish, _ in WISHES:
            self.assertIs(self.kept(is_query, wish), wish[0] not in ("put", "remove"))
        self.assertIs(is_query(("get", "put")), True)
        self.assertIs(is_query(("remove", "get")), False)

    def test_kinds_of_members(self):
        self.assertEqual([type(part) for part in parse_wish("sum 1 - 7")], [str, int, str, str])
        self.assertEqual([type(part) for part in parse_wish("next 5 7")], [str, str, int])
        self.assertEqual([type(part) for part in parse_wish("at 5")], [str, int])
        self.assertEqual([type(part) for part in parse_wish("get 5")], [str, str])
        self.assertEqual([type(part) for part in parse_wish("put 5 5")], [str, str, tuple])
        self.assertEqual([type(part) for part in parse_wish("put 5 5 6")[2]], [int, int])

    def test_keys(self):
        for key in KEYS:
            self.assertEqual(parse_wish("get " + key), ("get", key))
            self.assertEqual(parse_wish("remove " + key), ("remove", key))
            self.assertEqual(parse_wish("put " + key + " 1"), ("put", key, (1,)))

    def test_bounds(self):
        for word in KEYS + ("abcdefghi", "123456789", "000000000", "-"):
            bound = "" if word == "-" else word
            self.assertEqual(parse_wish("place " + word), ("place", bound))
            self.assertEqual(parse_wish("next " + word + " 5"), ("next", bound, 5))
            for name in ("range", "count"):
                self.assertEqual(parse_wish(f"{name} {word} b"), (name, bound, "b"))
                self.assertEqual(parse_wish(f"{name} b {word}"), (name, "b", bound))
            self.assertEqual(parse_wish(f"sum 0 {word} b"), ("sum", 0, bound, "b"))
            self.assertEqual(parse_wish(f"sum 0 b {word}"), ("sum", 0, "b", bound))

    def test_which_places_take_a_key_and_which_a_bound(self):
        for text, number in (("get - ", 1), ("get -", 1), ("put - 1", 1), ("remove -", 1), ("get abcdefghi", 1),
                             ("put abcdefghi 1", 1), ("remove abcdefghi", 1), ("next - -", 2), ("sum - a b", 1),
                             ("at -", 1), ("put a -", 2)):
            self.assert_word(text, number)

    def test_all_integers(self):
        for number in range(101):
            self.assertEqual(parse_wish(f"next a {number}"), ("next", "a", number))
        for number in range(3):
            self.assertEqual(parse_wish(f"sum {number} a b"), ("sum", number, "a", "b"))
        for number in (0, 1, 9, 10, 99, 100, 101, 65535, 65536, 99998, 99999):
            self.assertEqual(parse_wish(f"at {number}"), ("at", number))
        for number in (0, 1, 9, 10, 100, 101, 9999, 10000, 65534, 65535):
            for row in ((number,), (number, 1), (1, number), (1, number, 2), (1, 2, number)):
                self.assertEqual(parse_wish("put a " + " ".join(map(str, row))), ("put", "a", row))

    def test_integers_beside_the_limits(self):
        self.assert_word("next a 101", 2)
        self.assert_word("next a 1000", 2)
        self.assert_word("sum 3 a b", 1)
        self.assert_word("sum 10 a b", 1)
        self.assert_word("at 100000", 1)
        self.assert_word("put a 65536", 2)
        self.assert_word("put a 1 65536", 3)
        self.assert_word("put a 1 2 65536", 4)
        self.assert_word("put a 99999", 2)

    def test_many_wishes(self):
        source = random.Random(71)
        table = ref.FRUIT
        for _ in range(500):
            wish = source.choice([ref.random_query, ref.random_change])(source, table)
            words = [wish[0]]
            for member in wish[1:]:
                words.extend(map(str, member) if isinstance(member, tuple) else [str(member) or "-"])
            self.assertEqual(self.kept(format_wish, wish), " ".join(words))
            self.assertEqual(parse_wish(" ".join(words)), wish)

    def test_somewhat_beyond_the_limits(self):
        self.assertEqual(format_wish(("put", "toolongkey", (70000, 1, 2, 3))), "put toolongkey 70000 1 2 3")
        self.assertEqual(format_wish(("next", "toolongbound", 101)), "next toolongbound 101")
        self.assertEqual(format_wish(("get", "")), "get -")

    def test_defined_in_their_file(self):
        for function in (format_table, parse_table, format_wish, parse_wish, is_query):
            self.assertEqual(function.__module__, notation.__name__)


class WrongWishTest(NotationCase):

    def words_of(self, name):
        return [name] + [word for _, word in RIGHT[name]]

    def test_right_words_are_taken(self):
        for name in NAMES:
            self.assertEqual(format_wish(parse_wish(" ".join(self.words_of(name)))), " ".join(self.words_of(name)))

    def test_unknown_names(self):
        names = ("", "a", "GET", "Get", "gets", "ge", "-", "0", "min", "delete", "get\t", "get\n", "\tget", "key",
                 "bound", "row", "column", "__class__", "place\u0430")
        for name in names:
            self.assert_word(name, 0)
            for rest in ("", " ", "a", "a b", "a 1", "1", "- -", "1 2 3 4 5", "x y z a b c"):
                self.assert_word(name + " " + rest, 0)

    def test_each_word_that_cannot_stand_at_its_place(self):
        for name in NAMES:
            for place, (kind, _) in enumerate(RIGHT[name], start=1):
                for word in wrong_words(kind):
                    words = self.words_of(name)
                    words[place] = word
                    self.assert_word(" ".join(words), place)

    def test_first_wrong_word_counts(self):
        for name in NAMES:
            for places in itertools.combinations(range(1, len(RIGHT[name]) + 1), 2):
                words = self.words_of(name)
                for place in places:
                    words[place] = "A"
                self.assert_word(" ".join(words), places[0])
                self.assert_word(" ".join(words + ["x", "y"]), places[0])
                # A word that is missing comes behind a wrong one.
                self.assert_word(" ".join(words[:places[0] + 1]), places[0])

    def test_missing_words(self):
        for name in NAMES:
            # A row has at least one integer.
            due = 2 if name == "put" else len(RIGHT[name])
            for many in range(due):
                self.assert_word(" ".join(self.words_of(name)[:many + 1]), many + 1)

    def test_words_too_many(self):
        for name in NAMES:
            words = self.words_of(name)
            for more in ("", "a", "0", "-", "1", "A"):
                self.assert_word(" ".join(words + [more]), len(words))
                self.assert_word(" ".join(words + [more, more]), len(words))
                self.assert_word(" ".join(words + [more] * 50), len(words))

    def test_rows(self):
        self.assert_word("put a", 2)
        self.assertEqual(parse_wish("put a 1"), ("put", "a", (1,)))
        self.assertEqual(parse_wish("put a 1 2 3"), ("put", "a", (1, 2, 3)))
        self.assert_word("put a 1 2 3 4", 5)
        self.assert_word("put a 1 x 3 4", 3)
        self.assert_word("put a 1 2 x 4", 4)
        self.assert_word("put a 1 2 3 x", 5)
        self.assert_word("put a x", 2)
        self.assert_word("put a x y z 4", 2)

    def test_leading_zeros(self):
        for text, number in (("next a 00", 2), ("next a 01", 2), ("next a 0100", 2), ("sum 00 a b", 1),
                             ("sum 01 a b", 1), ("at 00", 1), ("at 01", 1), ("at 00001", 1), ("put a 00", 2),
                             ("put a 065535", 2), ("put a 0 00", 3)):
            self.assert_word(text, number)
        self.assertEqual(parse_wish("get 00"), ("get", "00"))
        self.assertEqual(parse_wish("place 01"), ("place", "01"))

    def test_empty_text_and_spaces(self):
        for text in ("", " ", "  ", "   ", " get a", "  get a", "\n", "\t"):
            self.assert_word(text, 0)

    def test_two_spaces_together_and_spaces_at_the_end(self):
        for name in NAMES:
            words = self.words_of(name)
            for place in range(1, len(words)):
                self.assert_word(" ".join(words[:place]) + "  " + " ".join(words[place:]), place)
            self.assert_word(" ".join(words) + " ", len(words))
            self.assert_word(" ".join(words) + "  ", len(words))
        self.assert_word("put a ", 2)
        self.assert_word("put a 1 ", 3)
        self.assert_word("put a 1 2 ", 4)
        self.assert_word("get ", 1)

    def test_other_blanks(self):
        for blank in FOREIGN_BLANKS + "\n":
            for name in NAMES:
                self.assert_word(blank.join(self.words_of(name)), 0)
            self.assert_word("get" + " a" + blank, 1)
            self.assert_word("put a 1" + blank + "2", 2)


if __name__ == "__main__":
    unittest.main()
