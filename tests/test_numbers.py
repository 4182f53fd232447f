import inspect
import re
import unittest

from minders.errors import NoNumber
from minders.numbers import number_in

SIGNS = [chr(code) for code in range(ord(" "), ord("~") + 1)] + ["\n", "\t"]
WRONG = [sign for sign in SIGNS if sign not in "0123456789"]
PLAIN = re.compile("0|[1-9][0-9]*")


class NumberTest(unittest.TestCase):
    def gives(self, number, *told, **named):
        found = number_in(*told, **named)
        self.assertIs(type(found), int)
        self.assertEqual(found, number)

    def refused(self, *told, **named):
        # The class itself is asked for: a ValueError of Python's own must not pass for it.
        try:
            found = number_in(*told, **named)
        except Exception as error:
            self.assertIs(type(error), NoNumber)
        else:
            self.fail(f"gave {found!r}")


class OrdinaryNumberTest(NumberTest):
    def test_interface(self):
        parameters = inspect.signature(number_in).parameters
        self.assertEqual(list(parameters), ["text", "most"])
        self.assertEqual(parameters["most"].default, 1000000)
        self.gives(7, text="7", most=7)

    def test_plain_numbers(self):
        for text, number in (("0", 0), ("7", 7), ("10", 10), ("1000000", 1000000)):
            with self.subTest(text=text):
                self.gives(number, text)

    def test_numbers_of_each_length(self):
        for number in (1, 9, 10, 99, 100, 101, 999, 1000, 9999, 10000, 99999, 100000, 123456, 999999):
            with self.subTest(number=number):
                self.gives(number, str(number))

    def test_many_numbers(self):
        for number in range(0, 1000001, 997):
            self.gives(number, str(number))

    def test_most(self):
        for most in (1, 2, 9, 10, 11, 99, 100, 12345, 999999, 1000000):
            with self.subTest(most=most):
                self.gives(most - 1, str(most - 1), most)
                self.gives(most, str(most), most)
                self.gives(most, str(most), most=most)
                self.refused(str(most + 1), most)
                self.refused(str(most + 1), most=most)

    def test_numbers_are_not_bounded_as_texts_are(self):
        self.gives(9, "9", 10)
        self.refused("10", 9)
        self.refused("100", 20)

    def test_most_nought(self):
        self.gives(0, "0", 0)
        self.refused("1", 0)
        self.refused("10", 0)
        self.refused("00", 0)
        self.refused("", 0)

    def test_most_not_told(self):
        self.gives(999999, "999999")
        self.gives(1000000, "1000000")
        self.refused("1000001")


class NumberEdgeTest(NumberTest):
    def test_more_than_a_million(self):
        for text in ("1000001", "1000010", "2000000", "9999999", "10000000", "1000000000"):
            with self.subTest(text=text):
                self.refused(text)

    def test_no_number_is_more_than_a_million_whatever_most_is(self):
        self.gives(1000000, "1000000", 1000001)
        self.refused("1000001", 1000001)

    def test_many_figures(self):
        for length in (40, 640, 4299, 4300, 4301, 5000, 100000):
            for figure in "0179":
                with self.subTest(length=length, figure=figure):
                    self.refused(figure * length)
                    self.refused(figure * length, 0)
            self.refused("1" + "0" * (length - 1))

    def test_many_noughts_ahead(self):
        for length in (40, 5000, 99999):
            with self.subTest(length=length):
                self.refused("0" * length + "7")

    def test_noughts_ahead(self):
        for text in ("00", "000", "000000", "0000000", "01", "07", "010", "001", "0123456", "01000000"):
            with self.subTest(text=text):
                self.refused(text)

    def test_nought_ahead_of_each_number(self):
        for number in range(0, 1000, 7):
            self.refused("0" + str(number))


class WrongNumberTest(NumberTest):
    def test_empty(self):
        self.refused("")

    def test_wrong_signs_by_themselves(self):
        for sign in WRONG:
            with self.subTest(sign=sign):
                self.refused(sign)
                self.refused(sign * 2)

    def test_wrong_signs_ahead_behind_and_within(self):
        for sign in WRONG:
            for text in (sign + "7", "7" + sign, "1" + sign + "7", sign + "10", "10" + sign, sign + "0", "0" + sign,
                         sign + "7" + sign, "100" + sign + "00", "100000" + sign, "1000000" + sign):
                with self.subTest(text=text):
                    self.refused(text)

    def test_all_texts_of_two_signs(self):
        for first in SIGNS:
            for second in SIGNS:
                text = first + second
                if PLAIN.fullmatch(text):
                    self.gives(int(text), text)
                else:
                    self.refused(text)

    def test_other_ways_to_tell_a_number(self):
        for text in ("1e3", "0x1f", "0b1", "1.0", "1,000", "1_000", "+1", "-0", "--1", "one", "None", "1 000"):
            with self.subTest(text=text):
                self.refused(text)

    def test_long_texts_of_wrong_signs(self):
        for text in (" " * 100000, "a" * 100000, "7" + " " * 99999, " " * 99999 + "7", "7\n" * 50000):
            self.refused(text)


if __name__ == "__main__":
    unittest.main()
