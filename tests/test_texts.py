import itertools
import unittest

from evenring.errors import BadText
from evenring.rings import Ring
from evenring.texts import read, written
from tests.common import NO_NUMBERS, RefusalTest, Strange, mixed, rings

BOUND = 1000000


class WrittenTest(unittest.TestCase):
    def test_ordinary(self):
        for houses, wanted in (([1, -1], "1 -1"), ([0, 0], "0 0"), ([3, 1, -4], "3 1 -4"), ([10, 20, 30], "10 20 30"),
                               ([-7, 0, 100], "-7 0 100"), ([BOUND, -BOUND], "1000000 -1000000")):
            told = written(Ring(houses))
            self.assertIs(type(told), str)
            self.assertEqual(told, wanted)

    def test_the_ring_stays(self):
        ring = Ring([3, 1, -4])
        written(ring)
        self.assertEqual(ring.houses(), [3, 1, -4])

    def test_the_argument_bears_its_name(self):
        self.assertEqual(written(ring=Ring([1, -1])), "1 -1")


class ReadTest(RefusalTest):
    def is_bad_text(self, text):
        self.is_refused(BadText, read, text)

    def there_and_back(self, houses):
        told = read(written(Ring(houses)))
        self.assertIs(type(told), Ring)
        self.assertEqual(told.houses(), houses)
        self.assertTrue(all(type(number) is int for number in told.houses()))
        self.assertEqual(written(told), written(Ring(houses)))

    def test_ordinary(self):
        for text, wanted in (("1 -1", [1, -1]), ("0 0", [0, 0]), ("3 1 -4", [3, 1, -4]), ("-10 20 -30", [-10, 20, -30]),
                             ("1000000 -1000000", [BOUND, -BOUND]), ("9 8 7 6 5 4 3 2 1 0", list(range(9, -1, -1)))):
            told = read(text)
            self.assertIs(type(told), Ring)
            self.assertEqual(told.houses(), wanted)

    def test_there_and_back(self):
        for houses in rings(2, (-BOUND, 1 - BOUND, -100, -12, -9, -1, 0, 1, 9, 10, 99, 305, BOUND - 1, BOUND)):
            self.there_and_back(houses)
        for houses in rings(3, range(-2, 3)):
            self.there_and_back(houses)
        for count in (5, 50, 20000):
            self.there_and_back(mixed(count, count, -BOUND, BOUND))
            self.there_and_back(mixed(count, count, -1, 1))

    def test_rings_with_another_number_than_0_in_all(self):
        self.assertEqual(read("5 5").houses(), [5, 5])

    def test_blanks_that_are_not_one_between(self):
        for text in ("", " ", "  ", " 1 -1", "1 -1 ", "1  -1", "1   -1", " 1 -1 ", "1 -1  ", "1- 1", "1 - 1", "- 1 1"):
            self.is_bad_text(text)

    def test_other_signs_between(self):
        for sign in "\t\n\r\v\f\0,;.:_/+-~":
            self.is_bad_text("1" + sign + "2")
            self.is_bad_text("1" + sign + "2 3")
            self.is_bad_text("1 " + sign + "2 3" if sign != "-" else "1 --2 3")
            self.is_bad_text("1 2" + sign)
            self.is_bad_text("1 2 " + sign)
            if sign != "-":
                self.is_bad_text(sign + "1 2")
            self.is_bad_text(sign + " 1 2")

    def test_every_sign_up_to_the_last_promised_one(self):
        for code in range(ord("~") + 1):
            sign = chr(code)
            if sign not in "0123456789":
                self.is_bad_text("1 " + sign)
                self.is_bad_text("1 2" + sign)
                self.is_bad_text("1 2" + sign + "3" if sign != " " else "1 2  3")
                self.is_bad_text("1 -" + sign)

    def test_needless_noughts(self):
        for text in ("00 0", "0 00", "01 1", "1 01", "-01 1", "1 -01", "000 1", "0000000 1", "0000001 1", "1 0000005",
                     "01000000 0"):
            self.is_bad_text(text)

    def test_minus_signs(self):
        for text in ("-0 0", "0 -0", "--1 1", "1 --1", "- 1", "1 -", "-", "- -", "1- 1", "1 1-", "-1-1 0", "-00 1"):
            self.is_bad_text(text)

    def test_other_ways_to_write_a_number(self):
        for text in ("+1 -1", "1_0 1", "1_000 1", "0x1 1", "1e3 1", "1.0 1", "1. 1", "1,000 1", "0b1 1", "0o7 1",
                     "True False", "None 1", "[1, -1]", "[1 -1]", "1 x", "one two", "1 2 a", "'1' 2", "nan 1", "inf 1"):
            self.is_bad_text(text)

    def test_too_few_numbers(self):
        for text in ("", "0", "1", "-5", "1000000"):
            self.is_bad_text(text)

    def test_numbers_at_the_bounds_and_just_beyond(self):
        self.assertEqual(read("1000000 -1000000 999999").houses(), [BOUND, -BOUND, 999999])
        for number in ("1000001", "-1000001", "9999999", "-9999999", "10000000", "-10000000"):
            self.is_bad_text(number + " 0")
            self.is_bad_text("0 " + number)
            self.is_bad_text("0 " + number + " 0")

    def test_very_long_numbers(self):
        for count in (8, 100, 4300, 4301, 10000, 200000):
            self.is_bad_text("1" * count + " 1")
            self.is_bad_text("1 -" + "9" * count)
            self.is_bad_text("0" * count + " 1")
            self.is_bad_text("1 " + "0" * count + "1")
            self.is_bad_text("-" * count)
            self.is_bad_text(" " * count)

    def test_every_short_text_is_read_just_if_it_is_written_so(self):
        wanted = {written(Ring(list(houses))): list(houses) for count in (2, 3)
                  for houses in itertools.product([-1, -10, -11, -100, 0, 1, 10, 11, 100] + [-101, -110, -111] + [
                      101, 110, 111, 1000, 1001, 1010, 1011, 1100, 1101, 1110, 1111], repeat=count)}
        found = 0
        for length in range(7):
            for signs in itertools.product("01- ", repeat=length):
                text = "".join(signs)
                if text in wanted:
                    found += 1
                    self.assertEqual(read(text).houses(), wanted[text])
                else:
                    self.is_bad_text(text)
        self.assertEqual(found, len([text for text in wanted if len(text) < 7]))

    def test_what_is_no_text(self):
        for wrong in NO_NUMBERS + [0, 1, -1, b"1 -1", bytearray(b"1 -1"), ["1", "-1"], ["1 -1"], ("1 -1",), [1, -1],
                                   Ring([1, -1]), Ring, str, Strange()]:
            self.is_bad_text(wrong)

    def test_each_ring_read_is_new(self):
        text = "1 2 -3"
        one = read(text)
        other = read(text)
        self.assertIsNot(one, other)
        one.houses().append(5)
        self.assertEqual((one.houses(), other.houses()), ([1, 2, -3], [1, 2, -3]))

    def test_the_argument_bears_its_name(self):
        self.assertEqual(read(text="1 -1").houses(), [1, -1])


if __name__ == "__main__":
    unittest.main()
