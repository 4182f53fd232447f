import inspect
import unittest

from minders.errors import BadRow, MinderError, NoName, NoTop, TooMany
from minders.tree import read, written

TOP = "minder always one 1 1 top"

WHOLE = """minder never all 3 10 top
  leaf always 0 0 idle a
  leaf fallen 1 2 steady 5 b
  leaf never 1000000 0 falls 0 c
  minder fallen one 0 1 m1
    leaf always 0 1000000 idle d
    minder always rest 1000000 1000000 m2
      leaf always 0 0 steady 1000000 e
  minder never all 1 2 m3
  leaf never 0 0 falls 1 f"""

IDLE = "leaf always 0 0 idle NAME"
STEADY = "leaf always 0 0 steady 5 NAME"
FALLS = "leaf always 0 0 falls 5 NAME"
MINDER = "minder always one 1 1 NAME"
FORMS = (IDLE, STEADY, FALLS, MINDER)
WRONG_NUMBERS = ("00", "01", "007", "-1", "+1", "1a", "a", "1.0", "1_0", "0x1", "1000001", "9999999", "10000000",
                 "9" * 5000, "1,", "#1")


def under_top(rows):
    return "\n".join([TOP] + ["  " + row for row in rows])


def nested(minders_above):
    rows = ["  " * depth + f"minder always one 1 1 m{depth}" for depth in range(minders_above)]
    return rows + ["  " * minders_above + "leaf always 0 0 idle last"]


def leaves(count):
    return [TOP] + [f"  leaf always 0 0 idle n{number}" for number in range(2, count + 1)]


class RefusalCase(unittest.TestCase):
    def refuses(self, text, kind):
        with self.assertRaises(MinderError) as caught:
            read(text)
        self.assertEqual(type(caught.exception), kind, text)
        return caught.exception

    def bad_row(self, text, row):
        with self.subTest(text=text):
            error = self.refuses(text, BadRow)
            self.assertEqual(error.row, row)

    # The row is told wherever it stands: at the end, and ahead of one that is right.
    def bad_child(self, row):
        self.bad_row(under_top([row]), 2)
        self.bad_row(under_top(["leaf always 0 0 idle first", row, "leaf always 0 0 idle third"]), 3)

    def good_child(self, row):
        with self.subTest(row=row):
            self.assertEqual(written(read(under_top([row]))), under_top([row]))


class ReadTest(unittest.TestCase):
    def test_interface(self):
        self.assertEqual(list(inspect.signature(read).parameters), ["text"])
        self.assertEqual(list(inspect.signature(written).parameters), ["tree"])
        tree = read(TOP)
        self.assertEqual(list(inspect.signature(tree.names).parameters), [])
        self.assertEqual(list(inspect.signature(tree.find).parameters), ["name"])

    def test_one_row(self):
        self.assertEqual(read(TOP).names(), ["top"])
        self.assertEqual(written(read(TOP)), TOP)

    def test_all_shapes(self):
        tree = read(WHOLE)
        self.assertEqual(tree.names(), ["top", "a", "b", "c", "m1", "d", "m2", "e", "m3", "f"])
        self.assertEqual(written(tree), WHOLE)

    def test_each_top(self):
        for keep in ("always", "fallen", "never"):
            for way in ("one", "all", "rest"):
                text = f"minder {keep} {way} 0 1 t"
                self.assertEqual(written(read(text)), text)

    def test_eight_minders_above(self):
        text = "\n".join(nested(8))
        self.assertEqual(written(read(text)), text)
        self.assertEqual(read(text).names()[-1], "last")

    def test_the_ninth_row_may_be_a_minder(self):
        text = "\n".join(nested(8)[:-1] + ["  " * 8 + "minder always one 1 1 last"])
        self.assertEqual(written(read(text)), text)

    def test_going_back(self):
        for blanks in (2, 4, 6, 8):
            rows = nested(4) + [" " * blanks + "leaf never 0 0 idle behind"]
            with self.subTest(blanks=blanks):
                self.assertEqual(written(read("\n".join(rows))), "\n".join(rows))

    def test_a_leaf_ahead_of_a_minder_with_children(self):
        text = "\n".join([TOP, "  leaf always 0 0 idle a", "  minder always one 1 1 b", "    leaf always 0 0 idle c"])
        self.assertEqual(written(read(text)), text)

    def test_passed_over_rows(self):
        for row in ("", " ", "   ", "      ", "#", "# remark", " # odd", "  #", "          # deep", "#\ta tab", "##",
                    "  #leaf always 0 0 idle a"):
            rows = [row, row, TOP, row, "  leaf always 0 0 idle a", row, row, "  leaf always 0 0 idle b", row]
            with self.subTest(row=row):
                self.assertEqual(read("\n".join(rows)).names(), ["top", "a", "b"])

    def test_a_sign_of_remarks_further_on_is_no_remark(self):
        for row in ("leaf always 0 0 idle a # x", "leaf always 0 0 idle a #", "leaf # always 0 0 idle a"):
            with self.assertRaises(BadRow):
                read(under_top([row]))

    def test_a_passed_over_row_is_nobodys_minder(self):
        rows = [TOP, "  minder always one 1 1 m", "    leaf always 0 0 idle a"]
        text = "\n".join(rows[:2] + ["# none", "   ", ""] + rows[2:])
        self.assertEqual(written(read(text)), "\n".join(rows))

    def test_blanks_between_words_and_at_the_end(self):
        text = "minder   always one  1 1    top   \n  leaf always      0 0 idle a \n  leaf never 1  2 falls   3 b   "
        self.assertEqual(written(read(text)),
                         "minder always one 1 1 top\n  leaf always 0 0 idle a\n  leaf never 1 2 falls 3 b")

    def test_a_text_somewhat_longer_than_told(self):
        rows = [TOP, "  leaf always 0 0 idle a"]
        text = "# remark\n" * 12000 + "\n".join(rows) + " " * 20000 + "\n"
        self.assertEqual(written(read(text)), "\n".join(rows))

    def test_words_may_be_names(self):
        rows = ["leaf always 0 0 idle idle", "leaf always 0 0 steady 1 steady", "minder always one 1 1 minder",
                "leaf always 0 0 idle leaf", "leaf always 0 0 falls 0 0", "leaf always 0 0 idle 007"]
        self.assertEqual(written(read(under_top(rows))), under_top(rows))
        self.assertEqual(read("minder always one 1 1 1").names(), ["1"])

    def test_what_is_read_is_of_the_right_kind(self):
        for name in read(WHOLE).names():
            self.assertIs(type(name), str)
            self.assertIs(type(read(WHOLE).find(name)), int)
        self.assertIs(type(written(read(WHOLE))), str)


class WhereRowsStandTest(RefusalCase):
    def test_nine_minders_above(self):
        self.bad_row("\n".join(nested(9)), 10)
        self.bad_row("\n".join(nested(9)[:-1] + ["  " * 9 + "minder always one 1 1 last"]), 10)
        self.bad_row("\n".join(nested(12)), 10)

    def test_under_a_leaf(self):
        self.bad_row("\n".join([TOP, "  leaf always 0 0 idle a", "    leaf always 0 0 idle b"]), 3)
        self.bad_row("\n".join([TOP, "  leaf always 0 0 idle a", "    minder always one 1 1 b"]), 3)
        # The minder ahead of the leaf is not the last row with two blanks less.
        self.bad_row("\n".join([TOP, "  minder always one 1 1 m", "  leaf always 0 0 idle a",
                                "    leaf always 0 0 idle b"]), 4)
        self.bad_row("\n".join([TOP, "  minder always one 1 1 m", "    leaf always 0 0 idle a",
                                "  leaf always 0 0 idle b", "    leaf always 0 0 idle c"]), 5)

    def test_odd_blanks(self):
        for blanks in (1, 3, 5):
            self.bad_row("\n".join([TOP, "  minder always one 1 1 m", " " * blanks + "leaf always 0 0 idle a"]), 3)
        self.bad_row(f" {TOP}", 1)

    def test_deeper_by_more_than_one_step(self):
        self.bad_row("\n".join([TOP, "    leaf always 0 0 idle a"]), 2)
        self.bad_row("\n".join([TOP, "      leaf always 0 0 idle a"]), 2)
        self.bad_row("\n".join([TOP, "  minder always one 1 1 m", "      leaf always 0 0 idle a"]), 3)

    def test_a_row_of_fewer_blanks_between(self):
        rows = [TOP, "  minder always one 1 1 m", "    minder always one 1 1 n", "      leaf always 0 0 idle a",
                "  minder always one 1 1 o", "      leaf always 0 0 idle b"]
        self.bad_row("\n".join(rows), 6)

    def test_a_second_top(self):
        self.bad_row("\n".join([TOP, "minder always one 1 1 other"]), 2)
        self.bad_row("\n".join([TOP, "leaf always 0 0 idle a"]), 2)
        self.bad_row("\n".join(nested(3) + ["minder always one 1 1 other"]), 5)

    def test_the_first_row(self):
        self.bad_row("leaf always 0 0 idle a", 1)
        self.bad_row("leaf always 0 0 steady 1 a", 1)
        self.bad_row("leaf always 0 0 falls 1 a\n" + TOP, 1)
        self.bad_row("  " + TOP, 1)
        self.bad_row("  leaf always 0 0 idle a", 1)
        self.bad_row("# no top\n  leaf always 0 0 idle a\n" + TOP, 2)

    def test_a_tab_is_no_blank(self):
        self.bad_row("\t", 1)
        self.bad_row("\t" + TOP, 1)
        self.bad_row(TOP + "\t", 1)
        self.bad_row(TOP.replace(" one", "\tone"), 1)
        self.bad_row(TOP.replace(" one", " \t one"), 1)
        for row in ("\t", " \t ", "\tleaf always 0 0 idle a", "leaf always 0 0 idle a\t", "leaf always 0\t0 idle a",
                    "leaf always 0 0 idle \ta", "\t# no remark", "leaf\talways\t0\t0\tidle\ta"):
            self.bad_child(row)


class FormsTest(RefusalCase):
    def test_forms(self):
        for form in FORMS:
            self.good_child(form.replace("NAME", "a"))

    def test_each_word_missing(self):
        for form in FORMS:
            words = form.replace("NAME", "a").split()
            for place in range(len(words)):
                self.bad_child(" ".join(words[:place] + words[place + 1:]))
            for count in range(1, len(words)):
                self.bad_child(" ".join(words[:count]))

    def test_a_word_too_many(self):
        for form in FORMS:
            words = form.replace("NAME", "a").split()
            for more in ("1", "b", "idle", "one", "always"):
                for place in range(len(words) + 1):
                    self.bad_child(" ".join(words[:place] + [more] + words[place:]))

    def test_each_word_otherwise(self):
        for form in FORMS:
            words = form.replace("NAME", "a").split()
            for place in range(len(words) - 1):
                for other in ("", "x", "Leaf", words[place] + "x", words[place].upper() + "X", "*"):
                    self.bad_child(" ".join(words[:place] + [other] + words[place + 1:]))

    def test_words_of_capital_letters(self):
        for row in ("LEAF always 0 0 idle a", "Leaf always 0 0 idle a", "leaf Always 0 0 idle a",
                    "leaf always 0 0 Idle a", "leaf always 0 0 Steady 1 a", "leaf always 0 0 Falls 1 a",
                    "Minder always one 1 1 a", "minder Always one 1 1 a", "minder always One 1 1 a"):
            self.bad_child(row)

    def test_words_of_other_forms(self):
        for row in ("leaf one 0 0 idle a", "minder one one 1 1 a", "minder always always 1 1 a",
                    "leaf always 0 0 one a", "leaf always 0 0 minder 1 a", "leaf always 0 0 idle 1 a",
                    "leaf always 0 0 steady a", "leaf always 0 0 falls a", "leaf always one 0 0 a",
                    "minder always 0 0 idle a",
                    "minder always one 1 1 idle a", "minder always 0 0 steady 5 a", "idle always 0 0 a"):
            self.bad_child(row)

    def test_each_keep(self):
        for keep in ("always", "fallen", "never"):
            self.good_child(f"leaf {keep} 0 0 idle a")
            self.good_child(f"leaf {keep} 0 0 steady 0 a")
            self.good_child(f"leaf {keep} 0 0 falls 0 a")
            self.good_child(f"minder {keep} rest 0 1 a")
        for keep in ("fall", "falls", "alway", "once", "done", "never,", "nev", "gave"):
            self.bad_child(f"leaf {keep} 0 0 idle a")
            self.bad_child(f"minder {keep} one 1 1 a")

    def test_each_way(self):
        for way in ("one", "all", "rest"):
            self.good_child(f"minder always {way} 0 1 a")
        for way in ("two", "on", "al", "rests", "any", "idle", "1", "none"):
            self.bad_child(f"minder always {way} 1 1 a")

    def test_each_number(self):
        rows = ("leaf always HERE 0 idle a", "leaf always 0 HERE idle a", "leaf always 0 0 steady HERE a",
                "leaf always 0 0 falls HERE a", "leaf always HERE 0 steady 1 a", "leaf always 0 HERE falls 1 a",
                "minder always all HERE 1 a", "minder always rest 1 HERE a")
        for row in rows:
            for number in ("1", "9", "10", "999999", "1000000"):
                self.good_child(row.replace("HERE", number))
            for number in WRONG_NUMBERS:
                self.bad_child(row.replace("HERE", number))

    def test_nought(self):
        for row in ("leaf always 0 0 idle a", "leaf always 0 0 steady 0 a", "leaf always 0 0 falls 0 a",
                    "minder always one 0 1 a"):
            self.good_child(row)

    def test_the_span_is_not_nought(self):
        for way in ("one", "all", "rest"):
            self.bad_child(f"minder always {way} 1 0 a")
            self.bad_child(f"minder always {way} 0 0 a")
        self.bad_row("minder always one 1 0 top", 1)

    def test_names(self):
        for form in FORMS:
            for name in ("a", "z", "0", "9", "ab12", "abcdefghijkl", "000000000000"):
                self.good_child(form.replace("NAME", name))
            for name in ("abcdefghijklm", "0000000000000", "A", "aB", "a-b", "a_b", "a.", "(a)", "a,b", "#a"):
                self.bad_child(form.replace("NAME", name))

    def test_the_tops_name(self):
        self.assertEqual(read("minder always one 1 1 abcdefghijkl").names(), ["abcdefghijkl"])
        for name in ("abcdefghijklm", "Top", "t_p"):
            self.bad_row(f"minder always one 1 1 {name}", 1)

    def test_a_name_that_stood_already(self):
        self.bad_row(under_top(["leaf always 0 0 idle top"]), 2)
        self.bad_row(under_top(["leaf always 0 0 idle a", "leaf never 1 1 falls 2 a"]), 3)
        self.bad_row(under_top(["minder always one 1 1 a", "  leaf always 0 0 idle b", "leaf always 0 0 idle b"]), 4)
        self.bad_row(under_top(["minder always one 1 1 a", "  minder always one 1 1 a"]), 3)

    def test_a_remarks_name_is_free(self):
        self.assertEqual(read(under_top(["# leaf always 0 0 idle a", "leaf always 0 0 idle a"])).names(), ["top", "a"])


class WhichRowTest(RefusalCase):
    def test_the_first_bad_row_is_told(self):
        self.bad_row("\n".join([TOP, "bad", "worse"]), 2)
        self.bad_row("\n".join([TOP, "  leaf always 0 0 idle a", "    leaf always 0 0 idle b", "bad"]), 3)
        self.bad_row("\n".join(["bad", TOP, "bad"]), 1)

    def test_passed_over_rows_are_counted(self):
        self.bad_row("\n\n   \n# remark\nbad", 5)
        self.bad_row("\n".join(["", "# top", TOP, "", "  # a", "  leaf always 0 0 idle a", "", "bad", ""]), 8)
        self.bad_row("\n" * 1000 + "bad", 1001)

    def test_the_row_is_a_whole_number(self):
        self.assertIs(type(self.refuses("bad", BadRow).row), int)


class HowManyTest(RefusalCase):
    def test_sixty_four(self):
        text = "\n".join(leaves(64))
        self.assertEqual(len(read(text).names()), 64)
        self.assertEqual(written(read(text)), text)
        self.assertEqual(len(read("\n# remark\n\n" + "\n\n".join(leaves(64)) + "\n#\n\n").names()), 64)

    def test_sixty_five(self):
        self.refuses("\n".join(leaves(65)), TooMany)
        self.refuses("\n".join(leaves(66)), TooMany)
        self.refuses("\n".join(leaves(64) + ["", "# remark", "  minder always one 1 1 other"]), TooMany)

    def test_the_65th_refused_by_itself(self):
        for row in ("bad", "  leaf always 0 0 idle n2", "leaf always 0 0 idle other", "    leaf always 0 0 idle other",
                    "  leaf always 0 00 idle other", "  minder always one 1 0 other"):
            self.bad_row("\n".join(leaves(64) + [row]), 65)
        self.bad_row("\n".join(leaves(64) + ["", "bad"]), 66)

    def test_a_bad_row_behind_the_65th(self):
        self.refuses("\n".join(leaves(65) + ["bad"]), TooMany)

    def test_a_bad_row_ahead_of_the_65th(self):
        rows = leaves(70)
        self.bad_row("\n".join(rows[:63] + ["bad"] + rows[63:]), 64)
        self.bad_row("\n".join(["bad"] + rows), 1)

    def test_none(self):
        for text in ("", " ", "\n", "\n\n\n", "   \n  ", "#", "# remark", "\n  # a\n#b\n   \n", "#\n" * 1000):
            with self.subTest(text=text):
                self.refuses(text, NoTop)


class WrittenTest(unittest.TestCase):
    LOOSE = """
# a top of no weight
minder   never   all 3   10 top

  leaf    always 0 0 idle a
     # a remark
  minder fallen rest 0 1 m   \n\
    leaf fallen 1 2   steady 5   b
              \n\
  leaf never  1000000 0 falls 0 c
#
"""
    PLAIN = """minder never all 3 10 top
  leaf always 0 0 idle a
  minder fallen rest 0 1 m
    leaf fallen 1 2 steady 5 b
  leaf never 1000000 0 falls 0 c"""

    def test_written_plainly(self):
        self.assertEqual(written(read(self.LOOSE)), self.PLAIN)

    def test_read_and_written_again(self):
        for text in (self.PLAIN, WHOLE, TOP, "\n".join(nested(8)), "\n".join(leaves(64))):
            self.assertEqual(written(read(text)), text)
            self.assertEqual(read(written(read(text))).names(), read(text).names())

    def test_written_twice(self):
        tree = read(self.LOOSE)
        self.assertEqual(written(tree), written(tree))

    def test_two_trees_are_apart(self):
        first = read(self.PLAIN)
        second = read(TOP)
        self.assertEqual(written(first), self.PLAIN)
        self.assertEqual(written(second), TOP)


class NamesTest(unittest.TestCase):
    def test_a_new_list_each_time(self):
        tree = read(WHOLE)
        first = tree.names()
        second = tree.names()
        self.assertIsNot(first, second)
        self.assertIs(type(first), list)
        first.clear()
        second.append("other")
        self.assertEqual(tree.names(), ["top", "a", "b", "c", "m1", "d", "m2", "e", "m3", "f"])
        self.assertEqual(tree.find("a"), 1)
        self.assertEqual(written(tree), WHOLE)

    def test_find(self):
        tree = read(WHOLE)
        self.assertEqual([tree.find(name) for name in tree.names()], list(range(10)))
        self.assertEqual(read("# remark\n\n" + TOP).find("top"), 0)

    def test_nobody_of_that_name(self):
        tree = read(WHOLE)
        for name in ("", "x", "A", "to", "topp", " top", "top ", "leaf", "0"):
            with self.subTest(name=name):
                with self.assertRaises(NoName) as caught:
                    tree.find(name)
                self.assertIs(type(caught.exception), NoName)


if __name__ == "__main__":
    unittest.main()
