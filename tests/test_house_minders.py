import unittest

from house_case import HouseCase, leaf, minder, top, within


class WaysTest(HouseCase):
    def test_one(self):
        self.begin(top("one"), leaf("a"), leaf("b"), leaf("c"))
        self.turns(1)
        self.trip("b", "1 fallen b", "1 answers b", "1 begun b")
        self.stands(top="on", a="on", b="on", c="on")

    def test_all(self):
        self.begin(top("all"), leaf("a"), leaf("b"), leaf("c"))
        self.trip("b", "0 fallen b", "0 answers b", "0 told c", "0 ended c", "0 told a", "0 ended a",
                  "0 begun a", "0 begun b", "0 begun c")
        self.stands(top="on", a="on", b="on", c="on")

    def test_rest(self):
        self.begin(top("rest"), leaf("a"), leaf("b"), leaf("c"), leaf("d"))
        self.trip("b", "0 fallen b", "0 answers b", "0 told d", "0 ended d", "0 told c", "0 ended c",
                  "0 begun b", "0 begun c", "0 begun d")
        self.trip("d", "0 fallen d", "0 answers d", "0 begun d")
        self.trip("a", "0 fallen a", "0 answers a", "0 told d", "0 ended d", "0 told c", "0 ended c", "0 told b",
                  "0 ended b", "0 begun a", "0 begun b", "0 begun c", "0 begun d")
        self.stands(top="on", a="on", b="on", c="on", d="on")

    def test_all_with_some_over_for_good(self):
        self.begin(top("all"), leaf("a", keep="never"), leaf("b"), leaf("c"), leaf("d", keep="never"), leaf("e"))
        self.trip("a", "0 fallen a")
        self.trip("d", "0 fallen d")
        self.trip("c", "0 fallen c", "0 answers c", "0 told e", "0 ended e", "0 told b", "0 ended b",
                  "0 begun b", "0 begun c", "0 begun e")
        self.stands(top="on", a="off", b="on", c="on", d="off", e="on")

    def test_rest_with_some_over_for_good(self):
        self.begin(top("rest"), leaf("a"), leaf("b"), leaf("c", keep="never"), leaf("d"))
        self.trip("c", "0 fallen c")
        self.trip("b", "0 fallen b", "0 answers b", "0 told d", "0 ended d", "0 begun b", "0 begun d")
        self.stands(top="on", a="on", b="on", c="off", d="on")

    def test_all_the_others_over_for_good(self):
        for way in ("all", "rest"):
            self.begin(top(way), leaf("a"), leaf("b", keep="never"), leaf("c", keep="never"))
            self.trip("b", "0 fallen b")
            self.trip("c", "0 fallen c")
            self.trip("a", "0 fallen a", "0 answers a", "0 begun a")
            self.stands(top="on", a="on", b="off", c="off")

    def test_whoever_was_put_away_is_begun_whatever_its_keep(self):
        self.begin(top("all"), leaf("a"), leaf("b", keep="never"), leaf("c", keep="fallen"))
        self.trip("a", "0 fallen a", "0 answers a", "0 told c", "0 ended c", "0 told b", "0 ended b",
                  "0 begun a", "0 begun b", "0 begun c")

    def test_a_minder_is_put_away_and_begun_with_all_below(self):
        self.begin(top("rest"), leaf("a"), minder("m"), within(leaf("b")), within(minder("n")),
                   within(within(leaf("c"))), within(leaf("d")), leaf("e"))
        self.trip("a", "0 fallen a", "0 answers a", "0 told e", "0 ended e", "0 told m", "0 told d", "0 ended d",
                  "0 told n", "0 told c", "0 ended c", "0 ended n", "0 told b", "0 ended b", "0 ended m",
                  "0 begun a", "0 begun m", "0 begun b", "0 begun n", "0 begun c", "0 begun d", "0 begun e")

    def test_whoever_is_over_for_good_is_begun_with_its_minder(self):
        self.begin(top("all"), leaf("a"), minder("m"), within(leaf("b", keep="never")), within(leaf("c")))
        self.trip("b", "0 fallen b")
        self.trip("c", "0 fallen c", "0 answers c", "0 begun c")
        self.trip("a", "0 fallen a", "0 answers a", "0 told m", "0 told c", "0 ended c", "0 ended m",
                  "0 begun a", "0 begun m", "0 begun b", "0 begun c")
        self.trip("b", "0 fallen b")
        self.stands(top="on", a="on", m="on", b="off", c="on")

    def test_a_minder_without_children_is_put_away(self):
        self.begin(top("all"), leaf("a"), minder("m"))
        self.trip("a", "0 fallen a", "0 answers a", "0 told m", "0 ended m", "0 begun a", "0 begun m")


class SpanTest(HouseCase):
    def answers(self, name):
        clock = self.house.rows()[-1][0]
        self.house.trip(name)
        self.assertEqual([entry[1] for entry in self.house.rows()[-3:]], ["fallen", "answers", "begun"], clock)
        self.looked_at = len(self.house.rows())

    def test_most_just_kept_and_gone_beyond(self):
        self.begin(top(most=3, span=1), leaf("a"))
        for number in range(3):
            self.answers("a")
        self.trip("a", "0 fallen a", "0 gives up top", "0 gave up top")
        self.all_off()

    def test_most_of_nought(self):
        self.begin(top(most=0, span=1), leaf("a"), leaf("b", keep="never"))
        self.trip("b", "0 fallen b")
        self.trip("a", "0 fallen a", "0 gives up top", "0 gave up top")

    def test_span_just_kept(self):
        self.begin(top(most=2, span=3), leaf("a"))
        self.answers("a")
        self.answers("a")
        self.turns(3)
        self.answers("a")
        self.answers("a")
        self.turns(2)
        self.trip("a", "5 fallen a", "5 gives up top", "5 gave up top")

    def test_span_just_gone_beyond(self):
        for turns, given_up in ((0, True), (1, True), (2, True), (3, False), (4, False)):
            with self.subTest(turns=turns):
                self.begin(top(most=1, span=3), leaf("a"))
                self.turns(5)
                self.trip("a", "5 fallen a", "5 answers a", "5 begun a")
                self.turns(turns)
                clock = 5 + turns
                if given_up:
                    self.trip("a", f"{clock} fallen a", f"{clock} gives up top", f"{clock} gave up top")
                else:
                    self.trip("a", f"{clock} fallen a", f"{clock} answers a", f"{clock} begun a")

    def test_a_span_of_one_is_this_turn_alone(self):
        self.begin(top(most=1, span=1), leaf("a", work="falls 0"))
        for clock in range(1, 20):
            self.turn(f"{clock} fallen a", f"{clock} answers a", f"{clock} begun a")
        self.trip("a", "19 fallen a", "19 gives up top", "19 gave up top")

    def test_old_ones_are_left_out_one_by_one(self):
        self.begin(top(most=2, span=4), leaf("a"))
        self.turns(1)
        self.answers("a")
        self.turns(2)
        self.answers("a")
        self.turns(2)
        self.trip("a", "5 fallen a", "5 answers a", "5 begun a")
        self.turns(1)
        self.trip("a", "6 fallen a", "6 gives up top", "6 gave up top")

    def test_ends_that_are_not_answered_are_not_counted(self):
        self.begin(top(most=1), leaf("a", keep="never"), leaf("b", keep="never"), leaf("c"))
        self.trip("a", "0 fallen a")
        self.trip("b", "0 fallen b")
        self.trip("c", "0 fallen c", "0 answers c", "0 begun c")
        self.trip("c", "0 fallen c", "0 gives up top", "0 gave up top")

    def test_ends_of_all_children_are_counted_together(self):
        self.begin(top(most=2), leaf("a"), leaf("b"), leaf("c"))
        self.answers("a")
        self.answers("b")
        self.trip("c", "0 fallen c", "0 gives up top", "0 told b", "0 ended b", "0 told a", "0 ended a",
                  "0 gave up top")

    def test_each_minder_counts_its_own(self):
        self.begin(top(most=1), minder("m", most=1), within(leaf("a")), minder("n", most=1), within(leaf("b")))
        self.answers("a")
        self.answers("b")
        self.trip("a", "0 fallen a", "0 gives up m", "0 gave up m", "0 answers m", "0 begun m", "0 begun a")

    def test_a_minder_begun_anew_has_no_falls(self):
        self.begin(top(most=5), minder("m", most=2), within(leaf("a")))
        for number in range(3):
            self.answers("a")
            self.answers("a")
            self.trip("a", "0 fallen a", "0 gives up m", "0 gave up m", "0 answers m", "0 begun m", "0 begun a")

    def test_great_numbers(self):
        self.begin(top(most=1000000, span=1000000), leaf("a", work="falls 0"))
        for clock in range(1, 3001):
            self.house.turn()
        self.assertEqual(len(self.house.rows()), 2 + 3 * 3000)
        self.stands(top="on", a="on")


class GivingUpTest(HouseCase):
    GIVES_UP = ("0 fallen x", "0 gives up m", "0 told y", "0 ended y", "0 gave up m")

    def family(self, way, keep="always", most=100):
        self.begin(top(way, most=most, keep="always"), leaf("a"), minder("m", keep=keep, most=0), within(leaf("x")),
                   within(leaf("y")), leaf("b"))

    def test_under_one(self):
        for keep in ("always", "fallen"):
            self.family("one", keep)
            self.trip("x", *self.GIVES_UP, "0 answers m", "0 begun m", "0 begun x", "0 begun y")

    def test_under_all(self):
        for keep in ("always", "fallen"):
            self.family("all", keep)
            self.trip("x", *self.GIVES_UP, "0 answers m", "0 told b", "0 ended b", "0 told a", "0 ended a",
                      "0 begun a", "0 begun m", "0 begun x", "0 begun y", "0 begun b")

    def test_under_rest(self):
        for keep in ("always", "fallen"):
            self.family("rest", keep)
            self.trip("x", *self.GIVES_UP, "0 answers m", "0 told b", "0 ended b",
                      "0 begun m", "0 begun x", "0 begun y", "0 begun b")

    def test_over_for_good(self):
        for way in ("one", "all", "rest"):
            self.family(way, "never")
            self.trip("x", *self.GIVES_UP)
            self.stands(top="on", a="on", m="off", x="off", y="off", b="on")
            self.turns(3)

    def test_at_the_top(self):
        for way in ("one", "all", "rest"):
            self.family(way, most=0)
            self.trip("x", *self.GIVES_UP, "0 gives up top", "0 told b", "0 ended b", "0 told a", "0 ended a",
                      "0 gave up top")
            self.all_off()
            self.turns(3)

    def test_within_a_turn(self):
        self.begin(top(), minder("m", most=0), within(leaf("x", work="falls 0")), within(leaf("y", work="falls 0")))
        self.turn("1 fallen x", "1 gives up m", "1 told y", "1 ended y", "1 gave up m",
                  "1 answers m", "1 begun m", "1 begun x", "1 begun y")
        self.stands(top="on", m="on", x="on", y="on")

    def test_with_a_slow_child(self):
        self.begin(top(), minder("m", most=0), within(leaf("x")), within(leaf("y", grace=3, slow=2)), leaf("b"))
        self.turns(1)
        self.trip("x", "1 fallen x", "1 gives up m", "1 told y")
        self.stands(top="on", m="down", x="off", y="told", b="on")
        self.turn()
        self.stands(top="on", m="down", x="off", y="told", b="on")
        self.turn("3 ended y", "3 gave up m", "3 answers m", "3 begun m", "3 begun x", "3 begun y")
        self.stands(top="on", m="on", x="on", y="on", b="on")

    def test_told_behind_giving_up(self):
        self.begin(top("all"), leaf("a"), minder("m", keep="never", most=0), within(leaf("x")),
                   within(leaf("y", grace=2, slow=2)))
        self.trip("x", "0 fallen x", "0 gives up m", "0 told y")
        self.trip("a", "0 fallen a", "0 answers a", "0 told m")
        self.stands(top="turning", a="off", m="down", x="off", y="told")
        self.turn()
        # The end was asked for, so its keep counts for nothing.
        self.turn("2 ended y", "2 gave up m", "2 begun a", "2 begun m", "2 begun x", "2 begun y")
        self.stands(top="on", a="on", m="on", x="on", y="on")

    def test_a_minder_that_gave_up_and_was_begun_anew_ends_as_ended(self):
        self.family("one")
        self.house.trip("x")
        self.looked_at = len(self.house.rows())
        self.stop("0 told top", "0 told b", "0 ended b", "0 told m", "0 told y", "0 ended y", "0 told x", "0 ended x",
                  "0 ended m", "0 told a", "0 ended a", "0 ended top")


if __name__ == "__main__":
    unittest.main()
