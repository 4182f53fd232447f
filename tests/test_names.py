import unittest

from minders.names import is_name

LETTERS = "abcdefghijklmnopqrstuvwxyz"
FIGURES = "0123456789"
SIGNS = [chr(code) for code in range(ord(" "), ord("~") + 1)] + ["\n", "\t"]
WRONG = [sign for sign in SIGNS if sign not in LETTERS + FIGURES]


class NamesTest(unittest.TestCase):
    def test_each_letter_and_figure_alone(self):
        for sign in LETTERS + FIGURES:
            with self.subTest(sign=sign):
                self.assertIs(is_name(sign), True)

    def test_every_length(self):
        for length in range(1, 13):
            with self.subTest(length=length):
                self.assertIs(is_name("a" * length), True)
                self.assertIs(is_name("0" * length), True)
                self.assertIs(is_name("z9z9z9z9z9z9"[:length]), True)

    def test_letters_alone_figures_alone_and_both(self):
        for text in ("abcdefghijkl", "opqrstuvwxyz", "000000000000", "012345678901", "7up", "up7", "u7p", "leaf", "01"):
            with self.subTest(text=text):
                self.assertIs(is_name(text), True)

    def test_empty(self):
        self.assertIs(is_name(""), False)

    def test_too_long(self):
        for length in (13, 14, 24, 100000):
            with self.subTest(length=length):
                self.assertIs(is_name("a" * length), False)
                self.assertIs(is_name("1" * length), False)

    def test_wrong_signs_at_any_place(self):
        for sign in WRONG:
            for length in range(1, 13):
                for place in range(length):
                    text = "a" * place + sign + "1" * (length - place - 1)
                    with self.subTest(text=text):
                        self.assertIs(is_name(text), False)

    def test_a_line_feed_behind_twelve_signs(self):
        self.assertIs(is_name("abcdefghijkl\n"), False)


if __name__ == "__main__":
    unittest.main()
