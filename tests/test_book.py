import inspect
import random
import unittest

from minders.book import seen, shown

WORDS = ("begun", "told", "done", "fallen", "ended", "cut", "gave up", "answers", "gives up")
SIXTY = int("9" * 60)


class ShownTest(unittest.TestCase):
    def test_interface(self):
        self.assertEqual([(name, each.default) for name, each in inspect.signature(shown).parameters.items()],
                         [("entry", inspect.Parameter.empty), ("width", 4)])

    def test_each_word(self):
        for word, text in (("begun", "0012    begun lamp"), ("told", "0012     told lamp"),
                           ("done", "0012     done lamp"), ("fallen", "0012   fallen lamp"),
                           ("ended", "0012    ended lamp"), ("cut", "0012      cut lamp"),
                           ("gave up", "0012  gave up lamp"), ("answers", "0012  answers lamp"),
                           ("gives up", "0012 gives up lamp")):
            self.assertEqual(shown((12, word, "lamp")), text)

    def test_width(self):
        for width, text in ((0, "345      cut a"), (1, "345      cut a"), (2, "345      cut a"), (3, "345      cut a"),
                            (4, "0345      cut a"), (5, "00345      cut a"), (70, "0" * 67 + "345      cut a")):
            with self.subTest(width=width):
                self.assertEqual(shown((345, "cut", "a"), width), text)
                self.assertEqual(shown((345, "cut", "a"), width=width), text)

    def test_width_not_told(self):
        for turn, figures in ((0, "0000"), (7, "0007"), (1000, "1000"), (10000, "10000"), (1234567, "1234567")):
            self.assertEqual(shown((turn, "told", "a")), f"{figures}     told a")

    def test_nought(self):
        self.assertEqual(shown((0, "done", "a"), 0), "0     done a")
        self.assertEqual(shown((0, "done", "a"), 1), "0     done a")
        self.assertEqual(shown((0, "done", "a"), 2), "00     done a")

    def test_sixty_figures(self):
        self.assertEqual(shown((SIXTY, "gives up", "a")), "9" * 60 + " gives up a")
        self.assertEqual(shown((SIXTY, "gives up", "a"), 61), "0" + "9" * 60 + " gives up a")

    def test_names(self):
        self.assertEqual(shown((1, "told", "abcdefghijkl")), "0001     told abcdefghijkl")
        self.assertEqual(shown((1, "told", "0")), "0001     told 0")


class SeenTest(unittest.TestCase):
    def gives_none(self, text):
        with self.subTest(text=text):
            self.assertIsNone(seen(text))

    def test_interface(self):
        self.assertEqual(list(inspect.signature(seen).parameters), ["text"])

    def test_what_was_shown(self):
        for turn in (0, 1, 9, 10, 999, 1000, 9999, 10000, 1000000, 10 ** 59, SIXTY):
            for word in WORDS:
                for name in ("a", "0", "lamp1", "abcdefghijkl"):
                    for width in (0, 1, 3, 4, 5, 70):
                        self.assertEqual(seen(shown((turn, word, name), width)), (turn, word, name))

    def test_it_is_a_tuple(self):
        entry = seen("0012    begun lamp")
        self.assertIs(type(entry), tuple)
        self.assertEqual([type(part) for part in entry], [int, str, str])

    def test_noughts_ahead(self):
        for noughts in (0, 1, 4, 60, 61, 4300, 5000, 99000):
            with self.subTest(noughts=noughts):
                self.assertEqual(seen("0" * noughts + "12    begun lamp"), (12, "begun", "lamp"))
                self.assertEqual(seen("0" * noughts + "0    begun lamp"), (0, "begun", "lamp"))
                self.assertEqual(seen("0" * noughts + "9" * 60 + "    begun lamp"), (SIXTY, "begun", "lamp"))

    def test_sixty_one_figures(self):
        for noughts in (0, 1, 10, 5000):
            self.gives_none("0" * noughts + "9" * 61 + "    begun lamp")
            self.gives_none("0" * noughts + "1" + "0" * 60 + "    begun lamp")
        self.gives_none("9" * 5000 + "    begun lamp")

    def test_wrong_turns(self):
        for turn in ("", "-1", "+1", "1a", "a", "1.0", "1_0", "0x1", "\t1", "1\t", "1\n", "#"):
            self.gives_none(turn + "    begun lamp")
        self.gives_none("00 12    begun lamp")
        self.gives_none("12,    begun lamp")

    def test_blanks_missing_or_too_many(self):
        for text in ("   begun lamp", "    begun lamp", " 0012    begun lamp", "0012   begun lamp",
                     "0012     begun lamp", "0012 begun lamp", "0012begun lamp", "0012   begunlamp",
                     "0012    begun  lamp", "0012    begunlamp", "0012    begun lamp ", "0012    begun lamp  ",
                     "0012gives up lamp", "0012  gives up lamp",
                     "0012 gives  up lamp", "0012 givesup lamp", "0012  givesup lamp", "0012 gives uplamp",
                     "0012 gives up  lamp", "0012    gave up lamp", "0012   gave  up lamp", "0012   gaveup lamp"):
            self.gives_none(text)

    def test_blanks_behind_the_word(self):
        for text in ("0012 begun    lamp", "0012  begun   lamp", "0012 cut      lamp", "0012 answers  lamp"):
            self.gives_none(text)

    def test_other_signs_for_blanks(self):
        for text in ("0012\t   begun lamp", "0012    begun\tlamp", "0012 \t  begun lamp", "0012\n   begun lamp",
                     "0012    begun\nlamp", "0012    begun lamp\n", "0012 gives\tup lamp", "00120000begun lamp",
                     "0012 000begun lamp", "0012    begun_lamp"):
            self.gives_none(text)

    def test_a_word_that_is_none(self):
        for word in ("", "begin", "Begun", "BEGUN", "on", "off", "gave", "up", "gives", "gave-up", "beguns", "xbegun",
                     "answersx", "xanswers", "gives_up", "give up"):
            self.gives_none("0012 " + word.rjust(8) + " lamp")

    def test_a_word_that_is_too_long(self):
        for word in ("gives ups", "gives up ", "xgives up", "answered it"):
            self.gives_none(f"0012 {word} lamp")

    def test_a_name_that_is_none(self):
        for name in ("", "Lamp", "lamp_1", "lamp 1", "abcdefghijklm", "lamp.", "\t", "lamp\n", "#"):
            self.gives_none("0012    begun " + name)
        self.gives_none("0012    begun")
        self.gives_none("0012    begu")

    def test_nothing(self):
        for text in ("", " ", "  ", "\n", "0", "0012", "0012 ", "0012   ", "lamp", "begun", " " * 20):
            self.gives_none(text)

    def test_signs_left_out_put_in_or_put_otherwise(self):
        draw = random.Random(5)
        for turn, word, name in ((0, "begun", "a"), (123, "gives up", "lamp1"), (98765, "cut", "abcdefghijkl")):
            text = shown((turn, word, name))
            for number in range(2000):
                place = draw.randrange(len(text) + 1)
                sign = draw.choice(" 01ag#\t\nZ")
                changed = draw.choice((text[:place] + text[place + 1:], text[:place] + sign + text[place:],
                                       text[:place] + sign + text[place + 1:]))
                entry = seen(changed)
                # Whatever is seen in a changed text is just what that text shows.
                if entry is not None:
                    width = len(changed.partition(" ")[0])
                    self.assertEqual(shown(entry, width), changed)


if __name__ == "__main__":
    unittest.main()
