import unittest

from house_case import HouseCase, leaf, minder, top, within
from minders.errors import NoLeaf, NoName, NotOn


class ToldTest(HouseCase):
    def test_ended_or_cut_at_once(self):
        for grace, slow, word in ((0, 0, "ended"), (5, 0, "ended"), (0, 1, "cut"), (0, 7, "cut")):
            with self.subTest(grace=grace, slow=slow):
                self.begin(top(), leaf("a", grace=grace, slow=slow))
                self.stop("0 told top", "0 told a", f"0 {word} a", "0 ended top")
                self.all_off()

    def test_ended_or_cut_later(self):
        for grace, slow, word, steps in ((1, 1, "ended", 1), (2, 1, "ended", 1), (3, 2, "ended", 2), (2, 2, "ended", 2),
                                         (1, 2, "cut", 1), (2, 3, "cut", 2), (2, 1000000, "cut", 2),
                                         (1000000, 4, "ended", 4), (5, 5, "ended", 5), (5, 6, "cut", 5)):
            with self.subTest(grace=grace, slow=slow):
                self.begin(top(), leaf("a", grace=grace, slow=slow))
                self.turns(2)
                self.stop("2 told top", "2 told a")
                for number in range(steps):
                    self.stands(top="down", a="told")
                    self.house.turn()
                self.then(f"{2 + steps} {word} a", f"{2 + steps} ended top")
                self.all_off()

    def test_no_work_meanwhile(self):
        for work in ("falls 1", "steady 1", "falls 0"):
            self.begin(top(), leaf("a", grace=9, slow=5, work=work))
            self.stop("0 told top", "0 told a")
            self.turns(4)
            self.turn("5 ended a", "5 ended top")

    def test_told_within_a_turn_ahead_of_its_step(self):
        self.begin(top("all"), leaf("a", work="falls 0"), leaf("b", grace=1, slow=1))
        self.turn("1 fallen a", "1 answers a", "1 told b", "1 ended b", "1 begun a", "1 begun b")

    def test_told_within_a_turn_behind_its_step(self):
        self.begin(top("all"), leaf("b", grace=1, slow=1), leaf("a", work="falls 0"))
        self.turn("1 fallen a", "1 answers a", "1 told b")
        self.stands(top="turning", b="told", a="off")
        self.turn("2 ended b", "2 begun b", "2 begun a")
        self.turn("3 fallen a", "3 answers a", "3 told b")

    def test_told_at_the_turn_at_which_it_was_begun(self):
        self.begin(top("rest"), leaf("a"), leaf("b", keep="always", work="falls 0"), leaf("c", grace=1, slow=1))
        self.trip("a", "0 fallen a", "0 answers a", "0 told c")
        self.turn("1 fallen b", "1 ended c", "1 begun a", "1 begun b", "1 begun c")
        self.turn("2 fallen b", "2 answers b", "2 told c", "2 ended c", "2 begun b", "2 begun c")

    def test_told_anew_it_has_its_whole_grace(self):
        self.begin(top("all"), leaf("a"), leaf("b", grace=2, slow=9))
        for clock in (0, 2, 4):
            self.trip("a", f"{clock} fallen a", f"{clock} answers a", f"{clock} told b")
            self.turn()
            self.turn(f"{clock + 2} cut b", f"{clock + 2} begun a", f"{clock + 2} begun b")

    def test_tripped_while_it_has_its_grace(self):
        self.begin(top(), leaf("a"), leaf("b", grace=3, slow=3))
        self.stop("0 told top", "0 told b")
        self.turn()
        self.trip("b", "1 fallen b", "1 told a", "1 ended a", "1 ended top")
        self.all_off()

    def test_an_end_that_was_asked_for_is_not_over_for_good(self):
        for keep in ("always", "fallen", "never"):
            self.begin(top("all"), leaf("a"), leaf("b", keep=keep, grace=3, slow=3))
            self.trip("a", "0 fallen a", "0 answers a", "0 told b")
            self.trip("b", "0 fallen b", "0 begun a", "0 begun b")
            self.stands(top="on", a="on", b="on")

    def test_an_end_that_was_asked_for_is_not_counted(self):
        self.begin(top("all", most=1), leaf("a"), leaf("b", grace=3, slow=3))
        self.trip("a", "0 fallen a", "0 answers a", "0 told b")
        self.trip("b", "0 fallen b", "0 begun a", "0 begun b")
        self.stands(top="on", a="on", b="on")

    def test_one_is_told_at_a_time(self):
        self.begin(top("all"), leaf("a", grace=1, slow=1), leaf("b"), leaf("c", grace=2, slow=3), leaf("d", slow=1))
        self.trip("b", "0 fallen b", "0 answers b", "0 told d", "0 cut d", "0 told c")
        self.stands(top="turning", a="on", b="off", c="told", d="off")
        self.turn()
        self.turn("2 cut c", "2 told a")
        self.stands(top="turning", a="told", b="off", c="off", d="off")
        self.turn("3 ended a", "3 begun a", "3 begun b", "3 begun c", "3 begun d")


class TurningTest(HouseCase):
    def four(self, most=100, keep="always", way="rest"):
        self.begin(top(way, most=most), leaf("a"), leaf("b"), leaf("c", keep=keep), leaf("d", grace=2, slow=2))

    def test_an_end_waits(self):
        self.four()
        self.trip("b", "0 fallen b", "0 answers b", "0 told d")
        self.stands(top="turning", a="on", b="off", c="on", d="told")
        self.trip("a", "0 fallen a")
        self.stands(top="turning", a="off", b="off", c="on", d="told")
        self.turn()
        self.turn("2 ended d", "2 told c", "2 ended c", "2 begun b", "2 begun c", "2 begun d",
                  "2 answers a", "2 told d")
        self.stands(top="turning", a="off", b="on", c="on", d="told")
        self.turn()
        self.turn("4 ended d", "4 told c", "4 ended c", "4 told b", "4 ended b",
                  "4 begun a", "4 begun b", "4 begun c", "4 begun d")
        self.stands(top="on", a="on", b="on", c="on", d="on")

    def test_whoever_is_begun_anyway_does_not_wait(self):
        for way in ("rest", "all"):
            for keep in ("always", "fallen"):
                self.four(most=1, keep=keep, way=way)
                self.trip("a", "0 fallen a", "0 answers a", "0 told d")
                self.trip("c", "0 fallen c")
                self.turn()
                self.turn("2 ended d", "2 told b", "2 ended b", "2 begun a", "2 begun b", "2 begun c", "2 begun d")
                self.stands(top="on", a="on", b="on", c="on", d="on")

    def test_whoever_is_over_for_good_meanwhile_is_not_begun(self):
        for way in ("rest", "all"):
            self.four(keep="never", way=way)
            self.trip("a", "0 fallen a", "0 answers a", "0 told d")
            self.trip("c", "0 fallen c")
            self.turn()
            self.turn("2 ended d", "2 told b", "2 ended b", "2 begun a", "2 begun b", "2 begun d")
            self.stands(top="on", a="on", b="on", c="off", d="on")

    def test_over_for_good_ahead_of_the_place_does_not_wait(self):
        self.begin(top("rest"), leaf("a", keep="never"), leaf("b"), leaf("c", grace=1, slow=1))
        self.trip("b", "0 fallen b", "0 answers b", "0 told c")
        self.trip("a", "0 fallen a")
        self.turn("1 ended c", "1 begun b", "1 begun c")
        self.stands(top="on", a="off", b="on", c="on")

    def test_done_with_keep_fallen_while_turning(self):
        self.begin(top("all"), leaf("a"), leaf("b", keep="fallen", work="steady 0"), leaf("c", grace=1, slow=1))
        self.trip("a", "0 fallen a", "0 answers a", "0 told c")
        self.turn("1 done b", "1 ended c", "1 begun a", "1 begun c")
        self.stands(top="on", a="on", b="off", c="on")

    def five(self, most=100, keep="always"):
        self.begin(top("rest", most=most), leaf("a", keep=keep), leaf("b"), leaf("c"), leaf("d", grace=1, slow=1))
        self.trip("c", "0 fallen c", "0 answers c", "0 told d")

    def test_the_waiting_are_answered_in_the_order_of_their_ends(self):
        self.five()
        self.trip("b", "0 fallen b")
        self.trip("a", "0 fallen a")
        self.turn("1 ended d", "1 begun c", "1 begun d", "1 answers b", "1 told d")
        self.stands(top="turning", a="off", b="off", c="on", d="told")
        self.turn("2 ended d", "2 told c", "2 ended c", "2 begun b", "2 begun c", "2 begun d",
                  "2 answers a", "2 told d")
        self.turn("3 ended d", "3 told c", "3 ended c", "3 told b", "3 ended b",
                  "3 begun a", "3 begun b", "3 begun c", "3 begun d")
        self.stands(top="on", a="on", b="on", c="on", d="on")

    def test_for_one_that_is_on_again_by_then_nothing_is_done(self):
        self.five(most=2)
        self.trip("a", "0 fallen a")
        self.trip("b", "0 fallen b")
        self.turn("1 ended d", "1 begun c", "1 begun d", "1 answers a", "1 told d")
        self.turn("2 ended d", "2 told c", "2 ended c", "2 begun a", "2 begun b", "2 begun c", "2 begun d")
        self.stands(top="on", a="on", b="on", c="on", d="on")
        self.turns(5)

    def test_the_waiting_are_answered_without_anybody_to_put_away(self):
        self.begin(top("rest"), leaf("a"), leaf("b"), leaf("c", keep="never"), leaf("d", keep="never"))
        self.trip("c", "0 fallen c")
        self.trip("d", "0 fallen d")
        self.trip("b", "0 fallen b", "0 answers b", "0 begun b")
        self.trip("a", "0 fallen a", "0 answers a", "0 told b", "0 ended b", "0 begun a", "0 begun b")

    def test_a_waiting_end_too_many(self):
        self.five(most=1)
        self.trip("a", "0 fallen a")
        self.turn("1 ended d", "1 begun c", "1 begun d", "1 gives up top", "1 told d")
        self.stands(top="down", a="off", b="on", c="on", d="told")
        self.turn("2 ended d", "2 told c", "2 ended c", "2 told b", "2 ended b", "2 gave up top")
        self.all_off()

    def test_who_gives_up_lets_nobody_wait(self):
        self.five(most=1)
        self.trip("b", "0 fallen b")
        self.trip("a", "0 fallen a")
        self.turn("1 ended d", "1 begun c", "1 begun d", "1 gives up top", "1 told d")
        self.turn("2 ended d", "2 told c", "2 ended c", "2 gave up top")
        self.all_off()

    def test_a_waiting_end_is_counted_at_the_turn_of_its_answer(self):
        self.begin(top("rest", most=1, span=2), leaf("a"), leaf("b"), leaf("c", grace=2, slow=2))
        self.trip("b", "0 fallen b", "0 answers b", "0 told c")
        self.trip("a", "0 fallen a")
        self.turn()
        self.turn("2 ended c", "2 begun b", "2 begun c", "2 answers a", "2 told c")
        self.turn()
        self.turn("4 ended c", "4 told b", "4 ended b", "4 begun a", "4 begun b", "4 begun c")

    def test_a_minder_told_while_it_is_turning(self):
        self.begin(top("rest"), leaf("a"), minder("m", way="rest"), within(leaf("v")), within(leaf("x")),
                   within(leaf("y", grace=2, slow=2)))
        self.trip("x", "0 fallen x", "0 answers x", "0 told y")
        self.trip("v", "0 fallen v")
        self.stands(top="on", m="turning", v="off", x="off", y="told")
        self.trip("a", "0 fallen a", "0 answers a", "0 told m")
        self.stands(top="turning", a="off", m="down", y="told")
        self.turn()
        self.turn("2 ended y", "2 ended m", "2 begun a", "2 begun m", "2 begun v", "2 begun x", "2 begun y")
        self.stands(top="on", a="on", m="on", v="on", x="on", y="on")

    def test_a_minder_that_gives_up_while_its_own_is_turning(self):
        self.begin(top("rest"), minder("m", most=0), within(leaf("x")), leaf("b"), leaf("c", grace=1, slow=1))
        self.trip("b", "0 fallen b", "0 answers b", "0 told c")
        self.trip("x", "0 fallen x", "0 gives up m", "0 gave up m")
        self.turn("1 ended c", "1 begun b", "1 begun c", "1 answers m", "1 told c")
        self.turn("2 ended c", "2 told b", "2 ended b", "2 begun m", "2 begun x", "2 begun b", "2 begun c")


class StopTest(HouseCase):
    def test_at_the_first_turn(self):
        self.begin(top(), leaf("a"), minder("m"), within(leaf("b")))
        self.stop("0 told top", "0 told m", "0 told b", "0 ended b", "0 ended m", "0 told a", "0 ended a",
                  "0 ended top")
        self.all_off()

    def test_behind_some_turns(self):
        self.begin(top(keep="always"), leaf("a", work="steady 9"))
        self.turns(3)
        self.stop("3 told top", "3 told a", "3 ended a", "3 ended top")
        self.all_off()

    def test_in_the_midst_of_a_turning(self):
        self.begin(top("all"), leaf("a"), leaf("b"), leaf("c", grace=2, slow=2))
        self.trip("a", "0 fallen a", "0 answers a", "0 told c")
        self.turn()
        self.stop("1 told top")
        self.stands(top="down", a="off", b="on", c="told")
        self.turn("2 ended c", "2 told b", "2 ended b", "2 ended top")
        self.all_off()

    def test_in_the_midst_of_a_turning_with_those_ahead(self):
        self.begin(top("rest"), leaf("a"), leaf("b"), leaf("c", grace=1, slow=1))
        self.trip("b", "0 fallen b", "0 answers b", "0 told c")
        self.stop("0 told top")
        self.turn("1 ended c", "1 told a", "1 ended a", "1 ended top")

    def test_the_waiting_are_let_go(self):
        self.begin(top("rest"), leaf("a"), leaf("b"), leaf("c", grace=1, slow=1))
        self.trip("b", "0 fallen b", "0 answers b", "0 told c")
        self.trip("a", "0 fallen a")
        self.stop("0 told top")
        self.turn("1 ended c", "1 ended top")

    def test_behind_giving_up(self):
        self.begin(top(most=0), leaf("a"), leaf("b", grace=2, slow=2))
        self.trip("a", "0 fallen a", "0 gives up top", "0 told b")
        self.stands(top="down", a="off", b="told")
        self.stop("0 told top")
        self.stop()
        self.turn()
        self.turn("2 ended b", "2 gave up top")
        self.all_off()

    def test_twice(self):
        self.begin(top(), leaf("a"), leaf("b", grace=2, slow=2))
        self.stop("0 told top", "0 told b")
        self.stop()
        self.turn()
        self.stop()
        self.stands(top="down", a="on", b="told")
        self.turn("2 ended b", "2 told a", "2 ended a", "2 ended top")

    def test_a_trip_of_a_child_of_a_minder_that_is_down(self):
        for keep in ("always", "fallen", "never"):
            self.begin(top(), leaf("a"), leaf("b", keep=keep), leaf("c", grace=1, slow=1))
            self.stop("0 told top", "0 told c")
            self.trip("b", "0 fallen b")
            self.stands(top="down", a="on", b="off", c="told")
            self.turn("1 ended c", "1 told a", "1 ended a", "1 ended top")

    def test_a_trip_of_all_others(self):
        self.begin(top(), leaf("a"), leaf("b"), leaf("c", grace=1, slow=1))
        self.stop("0 told top", "0 told c")
        self.trip("a", "0 fallen a")
        self.trip("b", "0 fallen b")
        self.trip("c", "0 fallen c", "0 ended top")

    def test_leaves_that_are_not_told_yet_go_on_with_their_work(self):
        self.begin(top(), leaf("a", work="falls 1"), leaf("b", work="steady 0"), leaf("c", grace=3, slow=3))
        self.stop("0 told top", "0 told c")
        self.turn("1 done b")
        self.turn("2 fallen a")
        self.turn("3 ended c", "3 ended top")

    def test_a_minder_below_that_is_on_still_answers(self):
        self.begin(top(), minder("m"), within(leaf("x")), leaf("c", grace=1, slow=1))
        self.stop("0 told top", "0 told c")
        self.trip("x", "0 fallen x", "0 answers x", "0 begun x")
        self.turn("1 ended c", "1 told m", "1 told x", "1 ended x", "1 ended m", "1 ended top")

    def test_a_minder_below_that_gives_up_is_not_begun_again(self):
        self.begin(top(), minder("m", most=0), within(leaf("x")), leaf("c", grace=1, slow=1))
        self.stop("0 told top", "0 told c")
        self.trip("x", "0 fallen x", "0 gives up m", "0 gave up m")
        self.turn("1 ended c", "1 ended top")

    def test_when_the_top_is_off(self):
        for most, stops in ((100, True), (0, False)):
            self.begin(top(most=most), leaf("a"), minder("m"))
            if stops:
                self.house.stop()
            else:
                self.house.trip("a")
            self.all_off()
            self.looked_at = len(self.house.rows())
            for number in range(3):
                with self.assertRaises(NotOn):
                    self.house.stop()
                with self.assertRaises(NotOn):
                    self.house.trip("a")
                with self.assertRaises(NoLeaf):
                    self.house.trip("m")
                with self.assertRaises(NoName):
                    self.house.trip("x")
                self.turn()
            self.all_off()


if __name__ == "__main__":
    unittest.main()
