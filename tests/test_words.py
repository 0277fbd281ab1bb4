"""Tests of point 100: integers, bits and names."""

import unittest

from probewright.limits import MOST_NAME
from probewright.words import are_bits, is_bit, is_integer, is_name

# Values that are no integers, some of them equal to an integer.
NO_INTEGERS = [
    True, False, None, "", "0", "1", b"1", 0.0, 1.0, 0.5, float("nan"), 1j,
    (), (1,), (0, 1), [], [1], {}, {1: 1}, set(), {0}, frozenset({1}),
    object(), int, len, range(2),
]


class Words(unittest.TestCase):
    # The functions return True or False themselves, not just a value that
    # counts as one of them.
    def holds(self, found, told):
        with self.subTest(told=told):
            self.assertIs(found, True)

    def fails(self, found, told):
        with self.subTest(told=told):
            self.assertIs(found, False)


class Integers(Words):
    def test_the_ends_of_the_range_and_beyond(self):
        for least, greatest in [(1, 4), (0, 1), (-3, 3), (-9, -5), (2, 1000)]:
            told = (least, greatest)
            self.holds(is_integer(least, least, greatest), told)
            self.holds(is_integer(least + 1, least, greatest), told)
            self.holds(is_integer(greatest, least, greatest), told)
            self.fails(is_integer(least - 1, least, greatest), told)
            self.fails(is_integer(greatest + 1, least, greatest), told)

    def test_a_range_of_one_integer(self):
        for only in (-1, 0, 1, 7):
            self.holds(is_integer(only, only, only), only)
            self.fails(is_integer(only - 1, only, only), only)
            self.fails(is_integer(only + 1, only, only), only)

    def test_a_range_without_any_integer(self):
        for least, greatest in [(1, 0), (5, 2), (0, -1), (1000, -1000)]:
            for value in range(-2, 7):
                self.fails(is_integer(value, least, greatest), (value, least, greatest))

    def test_long_integers(self):
        end = 10 ** 30
        self.holds(is_integer(end, -end, end), "end")
        self.holds(is_integer(-end, -end, end), "other end")
        self.fails(is_integer(end + 1, -end, end), "beyond")
        self.fails(is_integer(-end - 1, -end, end), "beyond the other end")

    def test_values_that_are_no_integers(self):
        for value in NO_INTEGERS:
            self.fails(is_integer(value, -1000, 1000), repr(value))
            self.fails(is_integer(value, 1, 1), repr(value))
            self.fails(is_integer(value, 0, 0), repr(value))
            self.fails(is_integer(value, 1, 0), repr(value))


class Bits(Words):
    def test_bits(self):
        self.holds(is_bit(0), 0)
        self.holds(is_bit(1), 1)

    def test_other_integers(self):
        for value in (-1, 2, -2, 3, 10, 11, 256, 10 ** 30, -10 ** 30):
            self.fails(is_bit(value), value)

    def test_values_that_are_no_integers(self):
        for value in NO_INTEGERS:
            self.fails(is_bit(value), repr(value))


class Tuples(Words):
    def test_the_right_length(self):
        self.holds(are_bits((), 0), "none")
        self.holds(are_bits((0,), 1), "one")
        self.holds(are_bits((1,), 1), "one")
        self.holds(are_bits((0, 1, 1, 0), 4), "four")
        self.holds(are_bits((1,) * 1000, 1000), "many")

    def test_a_wrong_length(self):
        for bits in [(), (0,), (1, 0), (0, 0, 0), (1, 1, 1, 1)]:
            for count in (-1, 0, 1, 2, 3, 4, 5):
                if count != len(bits):
                    self.fails(are_bits(bits, count), (bits, count))

    def test_values_that_are_no_tuples(self):
        for value in NO_INTEGERS + [0, 1, 2, [0, 1], [0], "01", "0", b"01", {0: 1, 1: 0}]:
            if not isinstance(value, tuple):
                for count in (0, 1, 2):
                    self.fails(are_bits(value, count), (repr(value), count))

    def test_one_item_is_no_bit(self):
        wrong = [value for value in NO_INTEGERS] + [2, -1, 10, (0,), [0]]
        for value in wrong:
            self.fails(are_bits((value,), 1), repr(value))
            self.fails(are_bits((value, 0, 1), 3), repr(value))
            self.fails(are_bits((0, value, 1), 3), repr(value))
            self.fails(are_bits((0, 1, value), 3), repr(value))

    def test_the_argument_is_not_changed(self):
        bits = [0, 1]
        self.fails(are_bits(bits, 2), "list")
        self.assertEqual(bits, [0, 1])


class Names(Words):
    def test_names(self):
        for name in ["a", "z", "m", "ab", "a0", "a9", "a_", "z_9", "half", "x__", "a1b2", "n_0_1"]:
            self.holds(is_name(name), name)

    def test_every_character(self):
        letters = "abcdefghijklmnopqrstuvwxyz"
        further = letters + "0123456789_"
        for code in range(0x250):
            sign = chr(code)
            (self.holds if sign in letters else self.fails)(is_name(sign), repr(sign))
            check = self.holds if sign in further else self.fails
            check(is_name("a" + sign), repr(sign))
            check(is_name("a" + sign + "b"), repr(sign))
            check(is_name("abcdefghijk" + sign), repr(sign))

    def test_the_length(self):
        self.holds(is_name("a"), 1)
        self.holds(is_name("abcdefghijk"), 11)
        self.holds(is_name("abcdefghijkl"), 12)
        self.holds(is_name("a0123456789_"), 12)
        self.fails(is_name("abcdefghijklm"), 13)
        self.fails(is_name("a" * 1000), 1000)
        self.holds(is_name("n" * MOST_NAME), MOST_NAME)
        self.fails(is_name("n" * (MOST_NAME + 1)), MOST_NAME + 1)

    def test_the_empty_string(self):
        self.fails(is_name(""), "")

    def test_a_wrong_first_character(self):
        for name in ["0", "9", "_", "0a", "9a", "_a", "__", "_0", "1_", "-a", ".a"]:
            self.fails(is_name(name), name)

    def test_capital_letters(self):
        for name in ["A", "Z", "Ab", "aB", "HALF", "halF"]:
            self.fails(is_name(name), name)

    def test_blanks_and_newlines(self):
        for name in [" ", " a", "a ", "a b", "\n", "a\n", "\na", "a\nb", "a\t", "a\r", "a\x00", "a\x0b"]:
            self.fails(is_name(name), repr(name))

    def test_letters_and_digits_outside_of_ascii(self):
        # Letters with marks, Greek, wide and raised ones; Arabic-Indic, wide
        # and raised digits; a letter that is put together from two signs.
        for sign in ["\u00e4", "\u00df", "\u03b1", "\uff41", "\u00aa", "\u0131",
                     "\u0663", "\uff11", "\u00b2", "e\u0301", "\u2160", "\U0001d41a"]:
            self.fails(is_name(sign), repr(sign))
            self.fails(is_name("a" + sign), repr(sign))
            self.fails(is_name(sign + "a"), repr(sign))

    def test_values_that_are_no_strings(self):
        for value in [None, True, False, 0, 1, 12, b"a", b"ab", ("a",), ("a", "b"), (), ["a"], [],
                      {"a": 1}, {"a"}, set(), 1.5, object(), str]:
            self.fails(is_name(value), repr(value))


if __name__ == "__main__":
    unittest.main()
